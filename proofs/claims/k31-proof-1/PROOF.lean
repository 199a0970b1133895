import PyProof.Rows.All
import Wide.All
import OpenK.AllK
import Wide.FinOn
import HandS.ForMost
import HandS.Codes
import HandS.IsInst
import HandS.TupAny
import HandS.Walk
import HandS.TryOnly
import HandS.DictComp
import KE.GoesEnum
import KE.GoesMore
import HandS.Style
import HandS.DictSub
import HandS.Wide
import KE.DataMinMax
import HandS.SortKw
import PyProof.WalkInts
import HandS.SetKeys
import HandS.Flow
import HandS.Iter
import HandS.Rev
import HandS.WideBits
import HandS.ForExc
import HandS.ExcInit
import HandS.ExcField
import KE.KExcIs
import PySem.Challenge.RW_sayonce_k31_common_systems
import HandS.Defaults
import HandS.Conv
import HandS.Deep
import HandS.Strs
import HandS.Dict
import HandS.TupLen
import KE.Datum
import HandS.TryMany
import PyProof.LongRange
section
set_option Elab.async false
set_option linter.all false
set_option maxRecDepth 100000
set_option maxHeartbeats 4000000
/-! steps: one lemma for each head of a reading -/
namespace R
open PySem L2 SX C8
/-- all that stood elsewhere stands -/
def SameBut (p : Addr) (H H' : Hp) : Prop := ∀ b o, b ≠ p → H b = some o → H' b = some o
section
variable {σ : L2.St} {H H' : Hp} {ta tb te tc : TE} {t u tt : TT} {ts us : TS} {x y z v : V} {r r' : R2} {Q : VK} {QT : Bool → Hp → Prop} {QA : List V → Hp → Prop} {D : Ends} {K : PySem.W.Frag} {i j m : Int} {k : Nat} {a p l : Addr} {xs ys : List V} {A B : Prop} {b : Bool} {ar as : TA}
theorem var (h : σ[k]? = some (some v)) (q : Q v H) : tVar k σ H Q := ⟨v, h, q⟩
theorem c (q : Q v H) : tC v σ H Q := q
theorem op (q : ta σ H fun x H1 => tb σ H1 fun y H2 => r x y H2 Q) : tOp r ta tb σ H Q := q
theorem un {f : V → Hp → VK → Prop} (q : ta σ H fun x H1 => f x H1 Q) : tUn f ta σ H Q := q
theorem i0 {g : Int → Int → V} (q : Q (g i j) H) : rI0 g (.int i) (.int j) H Q := ⟨i, j, rfl, rfl, q⟩
theorem ic {C : Int → Int → Prop} {g : Int → Int → V} (hc : C i j) (q : Q (g i j) H) : rI C g (.int i) (.int j) H Q := ⟨i, j, rfl, rfl, hc, q⟩
theorem u0 {g : Int → V} (q : Q (g i) H) : rU g (.int i) H Q := ⟨i, rfl, q⟩
theorem eq (h : scal x y = true) (q : Q (.bl (decide (x = y))) H) : rEq x y H Q := ⟨h, q⟩
theorem ne (h : scal x y = true) (q : Q (.bl (!decide (x = y))) H) : rNe x y H Q := ⟨h, q⟩
theorem eqI (q : Q (.bl (decide (i = j))) H) : rEq (.int i) (.int j) H Q := ⟨rfl, by
  have e : decide (V.int i = V.int j) = decide (i = j) := by
    by_cases h : i = j
    · subst h; simp
    · have h' : ¬ V.int i = V.int j := fun z => h (V.int.inj z)
      rw [decide_eq_false h, decide_eq_false h']
  rw [e]; exact q⟩
theorem neI (q : Q (.bl (!decide (i = j))) H) : rNe (.int i) (.int j) H Q := ⟨rfl, by
  have e : decide (V.int i = V.int j) = decide (i = j) := by
    by_cases h : i = j
    · subst h; simp
    · have h' : ¬ V.int i = V.int j := fun z => h (V.int.inj z)
      rw [decide_eq_false h, decide_eq_false h']
  rw [e]; exact q⟩
theorem tst (q : te σ H fun x H' => ∃ k, x = .bl k ∧ QT k H') : tTest te σ H QT := q
theorem tb_ (q : te σ H fun x H' => ∃ k, x = .bl k ∧ QT k H') : tB te σ H QT := q
theorem ex {QB : Bool → Prop} (q : QB b) : ∃ k, V.bl b = .bl k ∧ QB k := ⟨b, rfl, q⟩
theorem and_ (q : t σ H fun c H1 => if c = true then tt σ H1 QT else QT false H1) : tAnd t tt σ H QT := q
theorem or_ (q : t σ H fun c H1 => if c = true then QT true H1 else tt σ H1 QT) : tOr t tt σ H QT := q
theorem not_ (q : t σ H fun c H1 => QT (!c) H1) : tNot t σ H QT := q
theorem ife (q : t σ H fun c H1 => if c = true then ta σ H1 Q else tb σ H1 Q) : tIf t ta tb σ H Q := q
theorem chain (q : ta σ H fun x H1 => tb σ H1 fun y H2 => r x y H2 fun z H3 => ∃ k, z = .bl k ∧ (if k = true then tc σ H3 fun w' H4 => r' y w' H4 Q else Q (.bl false) H3)) : tChain r r' ta tb tc σ H Q := q
theorem nil (q : QA [] H) : tNil σ H QA := q
theorem cons (q : ta σ H fun x H1 => ar σ H1 fun xs H2 => QA (x :: xs) H2) : tCons ta ar σ H QA := q
theorem tup (q : ar σ H fun xs H1 => xs.length ≤ sizeLine ∧ ∀ p, H1 p = none → Q (.ref p) (upd H1 p (.tup xs))) : tTup ar σ H Q := q
theorem lst (q : ar σ H fun xs H1 => xs.length ≤ sizeLine ∧ ∀ p, H1 p = none → Q (.ref p) (upd H1 p (.lst xs))) : tLst ar σ H Q := q
theorem call {sp : Sp} {dvs : List V} {E : XK} (q : ar σ H fun vs H1 => sp (vs ++ dvs) H1 Q E) : tCall sp dvs E ar σ H Q := q
theorem cb {f : List V → Hp → VK → Prop} (q : ar σ H fun vs H1 => f vs H1 Q) : tCB f ar σ H Q := q
theorem ixL (h : H p = some (.lst xs)) (e : atI xs i = some v) (q : Q v H) : rIxL K (.ref p) (.int i) H Q := ⟨p, xs, i, v, rfl, rfl, SqL.of h, e, q⟩
theorem ixT (h : SqT K H p xs) (e : atI xs i = some v) (q : Q v H) : rIxT K (.ref p) (.int i) H Q := ⟨p, xs, i, v, rfl, rfl, h, e, q⟩
theorem setL {QH : Hp → Prop} {n : Nat} (h : H p = some (.lst xs)) (e : ixN xs.length i = some n) (q : QH (upd H p (.lst (xs.set n v)))) : rSetL (.ref p) (.int i) v H QH := ⟨p, xs, i, n, rfl, rfl, h, e, q⟩
theorem bm {T : String} {f : V → List V → Hp → VK → Prop} (q : te σ H fun x H1 => tyV K T x H1 ∧ ar σ H1 fun xs H2 => f x xs H2 Q) : tBM K T f te ar σ H Q := q
theorem append (h : H p = some (.lst xs)) (e : xs.length < sizeLine) (q : Q .non (upd H p (.lst (xs ++ [y])))) : rAppend (.ref p) [y] H Q := ⟨p, xs, y, rfl, rfl, h, e, q⟩
theorem seq (q : ts { D with nx := us D } σ H) : tSeq ts us D σ H := q
theorem next (q : D.nx σ H) : tNext D σ H := q
theorem drop (q : te σ H fun _ H1 => D.nx σ H1) : tDrop te D σ H := q
theorem ret (q : te σ H D.rt) : tRet te D σ H := q
theorem retN (q : D.rt .non H) : tRetN D σ H := q
theorem ifs (q : t σ H fun b H1 => if b = true then ts D σ H1 else us D σ H1) : tIfS t ts us D σ H := q
theorem asg {g : TG} (q : te σ H fun x H1 => g x σ H1 D.nx) : tAsg te g D σ H := q
theorem gname {QS : L2.St → Hp → Prop} (q : QS (σ.set k (some v)) H) : gName k v σ H QS := q
theorem gsub {to ti : TE} {f : TSet} {QS : L2.St → Hp → Prop} (q : to σ H fun o H1 => ti σ H1 fun i H2 => f o i v H2 fun H3 => QS σ H3) : gSub to ti f v σ H QS := q
theorem gtup {n : Nat} {tg : TGs} {QS : L2.St → Hp → Prop} (h : SqT K H a xs) (e : xs.length = n) (q : tg xs σ H QS) : gTup K n tg (.ref a) σ H QS := ⟨a, xs, rfl, h, e, q⟩
theorem gnil {QS : L2.St → Hp → Prop} (q : QS σ H) : gNil [] σ H QS := ⟨rfl, q⟩
theorem gcons {g : TG} {gs : TGs} {QS : L2.St → Hp → Prop} (q : g v σ H fun σ' H' => gs xs σ' H' QS) : gCons g gs (v :: xs) σ H QS := ⟨v, xs, rfl, q⟩
theorem yes (q : QT true H) : tYes σ H QT := q
theorem it {C : Prop} [Decidable C] (h1 : C → A) (h2 : ¬ C → B) : if decide C = true then A else B := by
  by_cases h : C
  · rw [if_pos (decide_eq_true h)]; exact h1 h
  · rw [if_neg (by rw [decide_eq_false h]; exact Bool.false_ne_true)]; exact h2 h
theorem itn {C : Prop} [Decidable C] (h1 : ¬ C → A) (h2 : C → B) : if (!decide C) = true then A else B := by
  by_cases h : C
  · rw [decide_eq_true h]; exact h2 h
  · rw [decide_eq_false h]; exact h1 h
theorem itY {C : Prop} [Decidable C] (h : C) (q : A) : if decide C = true then A else B := by rw [if_pos (decide_eq_true h)]; exact q
theorem itN {C : Prop} [Decidable C] (h : ¬ C) (q : B) : if decide C = true then A else B := by rw [if_neg (by rw [decide_eq_false h]; exact Bool.false_ne_true)]; exact q
theorem itT (q : A) : if true = true then A else B := by rw [if_pos rfl]; exact q
theorem itF (q : B) : if false = true then A else B := by rw [if_neg Bool.false_ne_true]; exact q
theorem itNT (q : B) : if (!true) = true then A else B := q
theorem itNF (q : A) : if (!false) = true then A else B := q
/-! built-ins by name -/
def rInt1 : List V → Hp → VK → Prop := fun xs H Q => ∃ i, xs = [.int i] ∧ Q (.int i) H
def rLenS (K : PySem.W.Frag) : List V → Hp → VK → Prop := fun xs H Q => ∃ p ys, xs = [.ref p] ∧ (SqL K H p ys ∨ SqT K H p ys) ∧ Q (.int ys.length) H
def rLenStr : List V → Hp → VK → Prop := fun xs H Q => ∃ z : Str, xs = [.str z] ∧ z.length ≤ sizeLine ∧ Q (.int z.length) H
theorem cInt {X : Cx} : CallR X (.type "int") rInt1 := fun pins s σ H xs us Q I r h => call_int1 pins s σ H xs us Q I r (.inl h)
theorem cLen {X : Cx} : CallR X (.builtin "len") (rLenS X.K) := call_len_seq
theorem cLenS {X : Cx} : CallR X (.builtin "len") rLenStr := call_len_str
theorem int1 (q : Q (.int i) H) : rInt1 [.int i] H Q := ⟨i, rfl, q⟩
theorem lenL (h : H p = some (.lst xs)) (q : Q (.int xs.length) H) : rLenS K [.ref p] H Q := ⟨p, xs, rfl, .inl (SqL.of h), q⟩
theorem lenT (h : SqT K H p xs) (q : Q (.int xs.length) H) : rLenS K [.ref p] H Q := ⟨p, xs, rfl, .inr h, q⟩
theorem lenStr {w : Str} (h : w.length ≤ sizeLine) (q : Q (.int w.length) H) : rLenStr [.str w] H Q := ⟨w, rfl, h, q⟩
def rIs : R2 := fun x y H Q => y = .non ∧ Q (.bl (decide (x = .non))) H
def rIsNot : R2 := fun x y H Q => y = .non ∧ Q (.bl (!decide (x = .non))) H
theorem oIs {X : Cx} : OpR X (compareOp .Is) rIs := op_isN
theorem oIsNot {X : Cx} : OpR X (compareOp .IsNot) rIsNot := op_notN
theorem is_ (q : Q (.bl (decide (x = .non))) H) : rIs x .non H Q := ⟨rfl, q⟩
theorem isnot (q : Q (.bl (!decide (x = .non))) H) : rIsNot x .non H Q := ⟨rfl, q⟩
theorem isi {s t : String} {b : Bool} (ty : TyX K H x (.type s)) (h : kitB s t = some b) (q : Q (.bl b) H) : rIsi K [x, .ty t] H Q := ⟨x, .ty t, .type s, .type t, b, rfl, .ty t, ty, kit_ty h, q⟩
theorem tyN : TyX K H .non (.type "NoneType") := .base .non
theorem tyB {b : Bool} : TyX K H (.bl b) (.type "bool") := .base (.bl b)
theorem tyI : TyX K H (.int i) (.type "int") := .base (.int i)
theorem tyS {w : Str} : TyX K H (.str w) (.type "str") := .base (.str w)
theorem tyT (h : H a = some (.tup xs)) : TyX K H (.ref a) (.type "tuple") := .base (.tup h)
theorem tyL (h : H a = some (.lst xs)) : TyX K H (.ref a) (.type "list") := .base (.lst h)
theorem andV (q : ta σ H fun x H1 => ∃ c, x = .bl c ∧ if c = true then tb σ H1 Q else Q (.bl false) H1) : tAndV ta tb σ H Q := q
theorem orV (q : ta σ H fun x H1 => ∃ c, x = .bl c ∧ if c = true then Q (.bl true) H1 else tb σ H1 Q) : tOrV ta tb σ H Q := q
theorem notV (q : ta σ H fun x H1 => ∃ c, x = .bl c ∧ Q (.bl (!c)) H1) : tNotV ta σ H Q := q
theorem rng1 {R : It → Hp → Prop} {ar : TA} (q : ar σ H fun vs H1 => ∃ j : Int, vs = [.int j] ∧ -(2 ^ 62) ≤ j ∧ j < 2 ^ 62 ∧ R (Itr 0 j.toNat) H1) : iRng1 ar σ H R := q
theorem rngE {QR : Int → Prop} (h : -(2 ^ 62) ≤ i ∧ i < 2 ^ 62) (q : QR i) : ∃ j : Int, [V.int i] = [.int j] ∧ -(2 ^ 62) ≤ j ∧ j < 2 ^ 62 ∧ QR j := ⟨i, rfl, h.1, h.2, q⟩
theorem all_ {bs : List Bool} (h : H p = some (.lst (bs.map V.bl))) (q : Q (.bl (bs.all id)) H) : rAll K [.ref p] H Q := ⟨p, bs, rfl, SqL.of h, q⟩
theorem all_rep : ∀ n, (List.replicate n true).all id = true
  | 0 => rfl
  | n + 1 => by rw [List.replicate_succ, List.all_cons, all_rep n]; rfl
/-! the written part told outright -/
section
variable {X : Cx} (K : PySem.W.Frag)
theorem kIxL (h : X.K = K := by rfl) : IxR X (rIxL K) := h ▸ ix_list
theorem kIxT (h : X.K = K := by rfl) : IxR X (rIxT K) := h ▸ ix_tup
theorem kLen (h : X.K = K := by rfl) : CallR X (.builtin "len") (rLenS K) := h ▸ cLen
theorem kIsi (h : X.K = K := by rfl) : CallR X (.builtin "isinstance") (rIsi K) := h ▸ call_isi
theorem kIn (h : X.K = K := by rfl) : OpR X (compareOp .In) (rIn K false) := h ▸ op_in_seq
theorem kNotIn (h : X.K = K := by rfl) : OpR X (compareOp .NotIn) (rIn K true) := h ▸ op_notIn_seq
theorem kAll (hc : X.calm = true := by rfl) (h : X.K = K := by rfl) : CallR X (.builtin "all") (rAll K) := h ▸ cr_all hc
theorem kMin (hc : X.calm = true := by rfl) (h : X.K = K := by rfl) : CallR X (.builtin "min") (rMin K) := h ▸ cr_min hc
theorem kSlL (h : X.K = K := by rfl) : SlR X (rSlL K) := h ▸ sl_list
def rListS (K : PySem.W.Frag) : List V → Hp → VK → Prop := fun xs H Q => ∃ p ys, xs = [.ref p] ∧ (SqL K H p ys ∨ SqT K H p ys) ∧ ∀ l, H l = none → Q (.ref l) (upd H l (.lst ys))
def rTupS (K : PySem.W.Frag) : List V → Hp → VK → Prop := fun xs H Q => ∃ p ys, xs = [.ref p] ∧ ((SqL K H p ys ∧ ∀ l, H l = none → Q (.ref l) (upd H l (.tup ys))) ∨ (SqT K H p ys ∧ Q (.ref p) H))
theorem kList (h : X.K = K := by rfl) : CallR X (.type "list") (rListS K) := h ▸ call_list_of
theorem kTuple (h : X.K = K := by rfl) : CallR X (.type "tuple") (rTupS K) := h ▸ call_tuple_of
def rMax2 : List V → Hp → VK → Prop := fun xs H Q => ∃ i j, xs = [.int i, .int j] ∧ Q (.int (if j > i then j else i)) H
def rMin2 : List V → Hp → VK → Prop := fun xs H Q => ∃ i j, xs = [.int i, .int j] ∧ Q (.int (if j < i then j else i)) H
theorem kMax2 (hc : X.calm = true := by rfl) : CallR X (.builtin "max") rMax2 := call_max2 hc
theorem kMin2 (hc : X.calm = true := by rfl) : CallR X (.builtin "min") rMin2 := call_min2 hc
theorem kiL {tg l : Expr} {tl : TE} (hl : PE X l tl) (h : X.K = K := by rfl) : PI X tg l (iList K tl) := h ▸ pi_list hl
theorem kiT {tg l : Expr} {tl : TE} (hl : PE X l tl) (h : X.K = K := by rfl) : PI X tg l (iTup K tl) := h ▸ pi_tup hl
theorem kFld {e : Expr} {ta : TE} {f : Str} {pos : Pos} (he : PE X e ta) (hb : attributeBase e f X.env (eval e X.env) = eval e X.env := by rfl) (h : X.K = K := by rfl) : PE X (.Attribute e f pos) (tFld K ta f) := h ▸ pe_fld he hb
def rAddS : R2 := fun x y H Q => ∃ i j : Str, x = .str i ∧ y = .str j ∧ i.length + j.length ≤ sizeLine ∧ Q (.str (i ++ j)) H
theorem oAddS {X : Cx} : OpR X (binaryOp .Add) rAddS := op_add_str
end
theorem addS {i j : Str} (h : i.length + j.length ≤ sizeLine) (q : Q (.str (i ++ j)) H) : rAddS (.str i) (.str j) H Q := ⟨i, j, rfl, rfl, h, q⟩
theorem listT (h : SqT K H p xs) (q : ∀ l, H l = none → Q (.ref l) (upd H l (.lst xs))) : rListS K [.ref p] H Q := ⟨p, xs, rfl, .inr h, q⟩
theorem tupL (h : H p = some (.lst xs)) (q : ∀ l, H l = none → Q (.ref l) (upd H l (.tup xs))) : rTupS K [.ref p] H Q := ⟨p, xs, rfl, .inl ⟨SqL.of h, q⟩⟩
theorem tupT (h : SqT K H p xs) (q : Q (.ref p) H) : rTupS K [.ref p] H Q := ⟨p, xs, rfl, .inr ⟨h, q⟩⟩
theorem max2 (q : Q (.int (if j > i then j else i)) H) : rMax2 [.int i, .int j] H Q := ⟨i, j, rfl, q⟩
theorem min2 (q : Q (.int (if j < i then j else i)) H) : rMin2 [.int i, .int j] H Q := ⟨i, j, rfl, q⟩
theorem itlist {R : It → Hp → Prop} (q : ta σ H fun x H1 => ∃ a, x = .ref a ∧ (∃ xs, SqL K H1 a xs) ∧ R (Itl K a) H1) : iList K ta σ H R := q
theorem ittup {R : It → Hp → Prop} (q : ta σ H fun x H1 => ∃ a, x = .ref a ∧ (∃ xs, SqT K H1 a xs) ∧ R (Itt K a) H1) : iTup K ta σ H R := q
theorem kit_NoneType_tuple : kitB "NoneType" "tuple" = some false := by decide +kernel
theorem kit_NoneType_list : kitB "NoneType" "list" = some false := by decide +kernel
theorem kit_NoneType_bool : kitB "NoneType" "bool" = some false := by decide +kernel
theorem kit_NoneType_str : kitB "NoneType" "str" = some false := by decide +kernel
theorem kit_NoneType_int : kitB "NoneType" "int" = some false := by decide +kernel
theorem kit_bool_tuple : kitB "bool" "tuple" = some false := by decide +kernel
theorem kit_bool_list : kitB "bool" "list" = some false := by decide +kernel
theorem kit_bool_bool : kitB "bool" "bool" = some true := by decide +kernel
theorem kit_bool_str : kitB "bool" "str" = some false := by decide +kernel
theorem kit_bool_int : kitB "bool" "int" = some true := by decide +kernel
theorem kit_int_tuple : kitB "int" "tuple" = some false := by decide +kernel
theorem kit_int_list : kitB "int" "list" = some false := by decide +kernel
theorem kit_int_bool : kitB "int" "bool" = some false := by decide +kernel
theorem kit_int_str : kitB "int" "str" = some false := by decide +kernel
theorem kit_int_int : kitB "int" "int" = some true := by decide +kernel
theorem kit_str_tuple : kitB "str" "tuple" = some false := by decide +kernel
theorem kit_str_list : kitB "str" "list" = some false := by decide +kernel
theorem kit_str_bool : kitB "str" "bool" = some false := by decide +kernel
theorem kit_str_str : kitB "str" "str" = some true := by decide +kernel
theorem kit_str_int : kitB "str" "int" = some false := by decide +kernel
theorem kit_tuple_tuple : kitB "tuple" "tuple" = some true := by decide +kernel
theorem kit_tuple_list : kitB "tuple" "list" = some false := by decide +kernel
theorem kit_tuple_bool : kitB "tuple" "bool" = some false := by decide +kernel
theorem kit_tuple_str : kitB "tuple" "str" = some false := by decide +kernel
theorem kit_tuple_int : kitB "tuple" "int" = some false := by decide +kernel
theorem kit_list_tuple : kitB "list" "tuple" = some false := by decide +kernel
theorem kit_list_list : kitB "list" "list" = some true := by decide +kernel
theorem kit_list_bool : kitB "list" "bool" = some false := by decide +kernel
theorem kit_list_str : kitB "list" "str" = some false := by decide +kernel
theorem kit_list_int : kitB "list" "int" = some false := by decide +kernel
/-- the turns of a comprehension whose new list is at D -/
def LcW (J : It) (g : TG) (tt : TT) (te : TE) (vs : List Nat) (σ : L2.St) (H1 : Hp) (D : Addr) (Q : VK) : Prop :=
  ∃ W : Nat → Nat → Hp → Prop, (∃ m, W 0 m (upd H1 D (.lst []))) ∧
    ∀ i m H, W i m H → (J.stop i H ∧ Q (.ref D) H) ∨
      (J.go i H ∧ ∃ Nx : Hp → Prop, (∀ H', Nx H' → ∃ m', m' < m ∧ W (i + 1) m' H') ∧
        ∀ x H', J.yld i H x H' → g x (wipe σ vs) H' fun σ2 H2 => wipe σ2 vs = wipe σ vs ∧
          tt σ2 H2 fun b H3 => if b = true then te σ2 H3 fun y H4 => ∃ acc, H4 D = some (.lst acc) ∧ acc.length < sizeLine ∧ Nx (upd H4 D (.lst (acc ++ [y]))) else Nx H3)
theorem lc {wi : TI} {g : TG} {vs : List Nat} (q : wi σ H fun J H1 => ∀ D, H1 D = none → LcW J g tt te vs σ H1 D Q) : tLc wi g tt te vs σ H Q := q
def ForW (J : It) (g : TG) (ts : TS) (D : Ends) (σ : L2.St) (H1 : Hp) : Prop :=
  ∃ W : Nat → Nat → L2.St → Hp → Prop, (∃ m, W 0 m σ H1) ∧
    ∀ i m σ H, W i m σ H → (J.stop i H ∧ D.nx σ H) ∨
      (J.go i H ∧ ∃ N : L2.St → Hp → Prop, (∀ σ' H', N σ' H' → ∃ m', m' < m ∧ W (i + 1) m' σ' H') ∧
        ∀ x H', J.yld i H x H' → g x σ H' fun σ2 H2 => ts { D with nx := N, ct := N, bk := D.nx } σ2 H2)
theorem for_ {wi : TI} {g : TG} (q : wi σ H fun J H1 => ForW J g ts D σ H1) : tFor wi g ts D σ H := q
theorem dT {C : Prop} [Decidable C] (h : C) (q : Q (.bl true) H) : Q (.bl (decide C)) H := by rw [decide_eq_true h]; exact q
/-! signs and texts -/
def rLeS : R2 := fun x y H Q => ∃ i j : Str, x = .str i ∧ y = .str j ∧ Q (.bl (!decide (j.cps.toList < i.cps.toList))) H
theorem oLeS {X : Cx} : OpR X (compareOp .LtE) rLeS := op_le_str
theorem leS {s u : Str} (q : Q (.bl (!decide (u.cps.toList < s.cps.toList))) H) : rLeS (.str s) (.str u) H Q := ⟨s, u, rfl, rfl, q⟩
theorem lt1 {a b : Nat} : ([a] < [b]) ↔ a < b := by
  constructor
  · intro h
    rcases Nat.lt_trichotomy a b with q | q | q
    · exact q
    · subst q; exact absurd h (List.lt_irrefl _)
    · exact absurd (List.lt_trans h (List.Lex.rel q)) (List.lt_irrefl _)
  · intro h; exact List.Lex.rel h
theorem ixS {w : Str} {n : Nat} (h : w.length ≤ sizeLine) (e : atI w.cps.toList i = some n) (q : Q (.str ⟨#[n]⟩) H) : rIxS (.str w) (.int i) H Q := ⟨w, i, n, rfl, rfl, h, e, q⟩
theorem itstr {R : It → Hp → Prop} (q : te σ H fun v H1 => ∃ x, v = .str x ∧ R (Its x) H1) : iStr te σ H R := q
theorem itstrE {w : Str} {R : Str → Prop} (q : R w) : ∃ x, V.str w = .str x ∧ R x := ⟨w, rfl, q⟩
theorem inL {b : Bool} (h : H p = some (.lst xs)) (hx : flatV x = true) (hs : xs.all flatV = true) (e : inV x xs = b) (q : Q (.bl b) H) : rIn K false x (.ref p) H Q := ⟨p, xs, rfl, .inl (SqL.of h), hx, hs, by subst e; exact q⟩
theorem flat_strs (ws : List Str) : (ws.map V.str).all flatV = true := by
  rw [List.all_eq_true]; intro v hv; obtain ⟨w, _, rfl⟩ := List.mem_map.mp hv; rfl
theorem in_strs (w : Str) : ∀ ws : List Str, inV (.str w) (ws.map V.str) = decide (w ∈ ws)
  | [] => rfl
  | u :: ws => by
    have ih := in_strs w ws
    unfold inV at ih ⊢
    rw [List.map_cons, List.any_cons, ih]
    by_cases h : w = u
    · subst h
      have e : eqV (.str w) (.str w) = true := by simp [eqV]
      rw [e]; simp
    · have e : eqV (.str u) (.str w) = false := by
        simp only [eqV]
        simpa using fun z => h z.symm
      rw [e]; simp [h]
theorem atI_in {xs : List V} {i : Int} (h0 : 0 ≤ i) (h1 : i < xs.length) : ∃ v, v ∈ xs ∧ atI xs i = some v := by
  have hlt : i.toNat < xs.length := by omega
  exact ⟨xs[i.toNat], List.getElem_mem hlt, at_of (by omega) (List.getElem?_eq_getElem hlt)⟩
section
variable {X : Cx} (K : PySem.W.Frag)
end
theorem m1 {f : V → List V → Hp → VK → Prop} (q : ta σ H fun x H1 => (∃ a, x = .str a) ∧ te σ H1 fun y H2 => f x [y] H2 Q) : tM1 f ta te σ H Q := q
theorem m1s {w : Str} (q : A) : (∃ a, V.str w = .str a) ∧ A := ⟨⟨w, rfl⟩, q⟩
section
variable {X : Cx} (K : PySem.W.Frag)
theorem kBM {e : Expr} {T : String} {f : V → List V → Hp → VK → Prop} {to : TE} {t : TA} (hp : PE X e (tBM X.K T f to t)) (h : X.K = K := by rfl) : PE X e (tBM K T f to t) := h ▸ hp
end
theorem tyl (h : H p = some (.lst xs)) (q : A) : tyV K "list" (.ref p) H ∧ A := ⟨.inl ⟨rfl, _, SqL.of h⟩, q⟩
theorem itlE {QQ : Addr → Prop} (h : H p = some (.lst xs)) (q : QQ p) : ∃ a, V.ref p = .ref a ∧ (∃ xs, SqL K H a xs) ∧ QQ a := ⟨p, rfl, ⟨xs, SqL.of h⟩, q⟩
theorem ittE {QQ : Addr → Prop} (h : H p = some (.tup xs)) (q : QQ p) : ∃ a, V.ref p = .ref a ∧ (∃ xs, SqT K H a xs) ∧ QQ a := ⟨p, rfl, ⟨xs, SqT.of h⟩, q⟩
theorem cut {t u : TS} (Mid : L2.St → Hp → Prop) (h1 : t { D with nx := Mid } σ H) (h2 : ∀ σ' H', Mid σ' H' → u D σ' H') : tCut t u D σ H := ⟨Mid, h1, h2⟩
theorem sb {o : HO} {b : Addr} (e : SameBut p H H') (n : b ≠ p) (h : H b = some o) : H' b = some o := e b o n h
theorem sm {o : HO} {b : Addr} (e : Same H H') (h : H b = some o) : H' b = some o := e b o h
/-! heaps -/
theorem SameBut.refl : SameBut p H H := fun _ _ _ h => h
theorem SameBut.trans {H1 H2 : Hp} (e : SameBut p H H1) (f : SameBut p H1 H2) : SameBut p H H2 := fun b o n h => f b o n (e b o n h)
theorem SameBut.put {o : HO} (e : SameBut p H H') : SameBut p H (upd H' p o) := fun b u n h => by rw [upd_ne n]; exact e b u n h
theorem SameBut.new {o : HO} {q : Addr} (e : SameBut p H H') (n : H' q = none) : SameBut p H (upd H' q o) := fun b u hb h => by
  have h' := e b u hb h
  rw [upd_ne (ne_of_none h' n)]; exact h'
theorem SameBut.of (e : Same H H') : SameBut p H H' := fun b o _ h => e b o h
theorem same_new {o : HO} {q : Addr} (e : Same H H') (n : H' q = none) : Same H (upd H' q o) := fun b u h => by
  have h' := e b u h
  rw [upd_ne (ne_of_none h' n)]; exact h'
/-- an object that was not there before may change -/
theorem same_put {o : HO} {q : Addr} (e : Same H H') (n : H q = none) : Same H (upd H' q o) := fun b u h => by
  rw [upd_ne (ne_of_none h n)]; exact e b u h
theorem SameBut.put' {o : HO} {q : Addr} (e : SameBut p H H') (n : H q = none) : SameBut p H (upd H' q o) := fun b u hb h => by
  rw [upd_ne (ne_of_none h n)]; exact e b u hb h
theorem free_new {o : HO} {q : Addr} (h : upd H p o q = none) : H q = none := by
  by_cases e : q = p
  · subst e; rw [upd_same] at h; cases h
  · rw [upd_ne e] at h; exact h
theorem ne_new {o : HO} {q : Addr} (h : upd H p o q = none) : q ≠ p := fun e => by
  subst e; rw [upd_same] at h; cases h
/-! slots at the start -/
def startE : List Str → List V → List (Option V)
  | [], vs => vs.map some
  | _ :: N, v :: vs => some v :: startE N vs
  | _ :: N, [] => none :: startE N []
theorem start_eq : ∀ (N : List Str) (vs : List V), L2.start N vs = startE N vs
  | [], vs => by simp [L2.start, startE]
  | n :: N, v :: vs => by
    have q := start_eq N vs
    unfold L2.start at q ⊢
    simp only [startE, ← q, List.map_cons, List.length_cons, Nat.add_sub_add_right, List.cons_append]
  | n :: N, [] => by
    have q := start_eq N []
    unfold L2.start at q ⊢
    simp only [startE, ← q, List.map_nil, List.length_cons, List.length_nil, Nat.sub_zero, List.nil_append, List.replicate_succ]
end
end R
end
section
set_option Elab.async false
set_option linter.all false
set_option maxRecDepth 100000
set_option maxHeartbeats 4000000
/-! enumerate(t), t a tuple -/
namespace PySem
set_option maxRecDepth 100000
/-- enumerate of one argument whose iterator is known -/
theorem enum1_meets {v : Value} {o : Obj} {G : Heap → Prop} (B : Begins v o G) :
    Meets (Builtin.«enumerate.__new__» ⟨[.type "enumerate", v], []⟩)
      (fun _ R s => G s.heap ∧ R (.ok (.ret (.ref (s.heap.push o).objs.size)))
        { s with heap := (s.heap.push o).push { cls := .type "enumerate", data := .fields #[.none, .bool false, .ref s.heap.objs.size, rawInt 0, .none, .none] } }) :=
  .of_wp fun prog w A R s hs => by
    obtain ⟨hp, gs, dr, tk, os⟩ := s
    obtain ⟨g1, r1⟩ := hs
    have hsub := sub_enumerate
    have it1 : ∀ {A' : Around} {E : Value → Shared → Prop} {Q : Value → Shared → Prop},
        Q (.ref hp.objs.size) ⟨hp.push o, gs, dr, tk, os⟩ → wpAny (model prog w) A' (pyIter v) Q E ⟨hp, gs, dr, tk, os⟩ :=
      fun z => B.iter prog w _ _ ⟨hp, gs, dr, tk, os⟩ _ g1 z
    wp_walk using it1
    refine wpAny_stack_any fun st => wpAny_pure ?_
    split
    · rename_i c _ _ _ _ _
      cases (c == Value.type "enumerate")
      · wp_walk using it1
        exact ⟨_, rfl, r1⟩
      · wp_walk using it1
        exact ⟨_, rfl, r1⟩
    · wp_walk using it1
      exact ⟨_, rfl, r1⟩
section
variable {prog : Program} {w : World} {A : Around} {E : Value → Shared → Prop} {s : Shared}
/-- its two new objects: the iterator, the enumerate -/
theorem enum1_call {v : Value} {o : Obj} {G : Heap → Prop} {Q : Value → Shared → Prop} (B : Begins v o G) (g1 : G s.heap)
    (k : ∀ h', IsEnum h' (s.heap.objs.size + 1) s.heap.objs.size 0 .none → h'.get? s.heap.objs.size = some o →
      (∀ b o', s.heap.get? b = some o' → h'.get? b = some o') → Q (.ref (s.heap.objs.size + 1)) { s with heap := h' }) :
    wpAny (model prog w) A (call (.type "enumerate") [v]) Q E s := by
  refine callType_new F.called_enumerate (by decide) (F.typeCall_enumerate_1 _) (F.newCall_enumerate_1 _)
    (fun obj => F.args_object_init_2 obj _) F.entry_enumerate_new (enum1_meets B) ⟨g1, ?_⟩
  have sz : (s.heap.push o).objs.size = s.heap.objs.size + 1 := Heap.size_push ..
  show _ ∧ _
  rw [sz]
  generalize hx : ({ cls := .type "enumerate", data := .fields #[.none, .bool false, .ref s.heap.objs.size, rawInt 0, .none, .none] } : Obj) = x
  have hxf : x.isFreed = false := by rw [← hx]; rfl
  have at1 : ((s.heap.push o).push x).get? (s.heap.objs.size + 1) = some x := by
    have z := Heap.get?_push_size (s.heap.push o) (o := x) hxf
    rwa [sz] at z
  have at0 : ((s.heap.push o).push x).get? s.heap.objs.size = some o := Heap.get?_push_of_some _ (Heap.get?_push_size _ B.free)
  have old : ∀ b o', s.heap.get? b = some o' → ((s.heap.push o).push x).get? b = some o' := fun b o' z => Heap.get?_push_of_some _ (Heap.get?_push_of_some _ z)
  subst hx
  exact ⟨⟨_, at1, rfl⟩, k _ at1 at0 old⟩
end
end PySem
namespace R
open PySem PySem.Spec PyProof.Rows L2
/-- enumerate of the tuple at a -/
def Itet (K : PySem.W.Frag) (a : Addr) : It where
  go := fun i H => ∃ (xs : List V) (x : V), SqT K H a xs ∧ xs[i]? = some x
  yld := fun i H v H' => ∃ T x, v = .ref T ∧ H T = none ∧ H' = upd H T (.tup [.int (i : Nat), x]) ∧ ∀ xs, SqT K H a xs → xs[i]? = some x
  stop := fun i H => ∃ xs : List V, SqT K H a xs ∧ xs.length ≤ i
theorem turn_enumT {P : Program} {w : World} {K : PySem.W.Frag} {elts : List Expr} {kk : Nat} {tpos : Pos} (a e it : Addr) :
    Turn P w K (.Tuple elts kk tpos) (Itet K a) [e, it] e (fun i h => (∃ old, IsEnum h e it ((i : Nat) : Int) old) ∧ h.IsTupleIter it a i ∧ e ≠ it ∧ a ≠ it ∧ e ≠ a) where
  mem := by simp
  obj := fun i h st b hb => by
    obtain ⟨⟨old, he⟩, ⟨o, ho, hc, hd⟩, _⟩ := st
    have e' : b = e ∨ b = it := by simpa using hb
    rcases e' with rfl | rfl
    · exact ⟨_, he, fun v q => nomatch q⟩
    · exact ⟨o, ho, fun v q => by rw [hd] at q; cases q⟩
  keep := fun i h h' st k => by
    obtain ⟨⟨old, he⟩, hi, n1, n2, n3⟩ := st
    exact ⟨⟨old, k e (by simp) _ he⟩, hi.at fun o q => k it (by simp) o q, n1, n2, n3⟩
  item := by
    intro X hP hw hK hc i pins s σ H E I hf st hg
    subst hP hw hK
    obtain ⟨⟨old, he⟩, hit, n1, n2, n3⟩ := st
    obtain ⟨xs, x, hq, hx⟩ := hg
    obtain ⟨its, rv, p, hz⟩ := I.tuple hq
    have p' : s.heap.IsTuple a its.toArray := p
    have hel : e < s.heap.objs.size := Heap.lt_size he
    have hil : it < s.heap.objs.size := by obtain ⟨_, q, _⟩ := hit; exact Heap.lt_size q
    have hlt : i < its.toArray.size := by
      have := (List.getElem?_eq_some_iff.mp hx).1
      have := rv.length
      simp; omega
    have hh : X.A.in1.handled = none := I.ok.hd hc
    refine wpAny_pyNext_enum_itemD (Draws.tuple hh it a n2 its.toArray) he ⟨hit, p'⟩ hlt n1 (by simp [n1, n3]) fun u h' tk hu ho st' hT hsz hk => ?_
    refine ⟨_, rfl, wpAny_letOwnedTupleGo_enum (s := { s with heap := h', toks := tk + 1 }) ho fun h'' he' sb => ?_⟩
    have hu' : its[i]? = some u := by simpa using hu
    obtain ⟨u2, hu2, ru⟩ := rv.get hx
    have eu : u2 = u := Option.some.inj (hu2.symm.trans hu')
    subst eu
    have hT2 : h''.get? s.heap.objs.size = some { cls := .type "tuple", data := .seq #[.int i tk, u2] } := (sb.2 _ (Nat.ne_of_gt hel)).trans hT
    have new : ObjOk X.prog X.w (upd H s.heap.objs.size (.tup [.int (i : Nat), x])) h'' s.heap.objs.size (.tup [.int (i : Nat), x]) :=
      ⟨by show 2 ≤ sizeLine; decide, [.int i tk, u2], .cons ⟨_, rfl⟩ (.cons ru .nil), ⟨_, hT2, rfl, _, rfl⟩⟩
    have far : ∀ b ob, b ∉ [e, it] → s.heap.get? b = some ob → h''.get? b = some ob := fun b ob hb q => by
      have b1 : b ≠ e := fun z => hb (by simp [z])
      have b2 : b ≠ it := fun z => hb (by simp [z])
      exact (sb.2 b b1).trans (hk b ob b1 b2 q)
    have I1 : Inv X pins σ (upd H s.heap.objs.size (.tup [.int (i : Nat), x])) { s with heap := h'', toks := tk + 1 } :=
      I.turnedNew (ch := [e, it]) far hf (Nat.le_refl _) new
    refine ⟨.ref s.heap.objs.size, _, I1, rfl, ⟨_, x, rfl, I.hok.fresh (Nat.le_refl _), rfl, fun ys hy => by rw [I.tuple_inj hy hq]; exact hx⟩, ⟨⟨u2, ?_⟩, st'.1.at fun o q => (sb.2 it (Ne.symm n1)).trans q, n1, n2, n3⟩, fun b hb => ?_⟩
    · have e1 : ((i + 1 : Nat) : Int) = (i : Int) + 1 := by omega
      rw [e1]; exact he'
    · have hb' : b < s.heap.objs.size := by
        have e' : b = e ∨ b = it := by simpa using hb
        rcases e' with rfl | rfl
        · exact hel
        · exact hil
      rw [upd_ne (Nat.ne_of_lt hb')]
      exact (hf b hb).1
  done := by
    intro X hP hw hK hc i pins s σ H E I hf st hg
    subst hP hw hK
    obtain ⟨⟨old, he⟩, hit, n1, n2, n3⟩ := st
    obtain ⟨xs, hq, hx⟩ := hg
    obtain ⟨its, rv, p, hz⟩ := I.tuple hq
    have hh : X.A.in1.handled = none := I.ok.hd hc
    have hl := rv.length
    have p' : s.heap.IsTuple a its.toArray := p
    have hT : s.TypeIs (.ref e) "enumerate" := ⟨_, he, rfl⟩
    obtain ⟨f0, f1, f2, f3, f4, f5⟩ := hf it (by simp)
    have none_left : its.toArray[i]? = none := by simp; omega
    unfold pyNext
    refine wpAny_bind (wpAny_attempt (wpAny_callSpecial?_slot (name := Str.ofString "__next__") hT PySem.F.slot_enumerate_next
      (wpAny_call_entry PySem.F.slot_enumerate_next hT PySem.F.entry_enumerate_next ?_ (PySem.F.args_enumerate_next_1 _))))
    show wpAny _ _ (field (.ref e) 2 >>= _) _ _ _
    refine wpAny_bind (wpAny_field he rfl (x := .ref it) rfl ?_)
    refine wpAny_bind (wpAny_nextOf_tuple_end hh hit p' none_left fun h' x eb hx' => ?_)
    obtain ⟨o, ho, hc'⟩ := hx'
    refine wpAny_bind (wpAny_isInstance (T := "StopIteration") (b := true) ⟨o, ho, hc'⟩ isSubtype_stop ?_)
    exact wpAny_pure ⟨rfl, I.turned (t' := s.toks) (fun b o hb q => eb b o hb q) f0 f1 f3 f4 f5⟩
  self := fun A i s Q E st h => by
    obtain ⟨⟨_, he⟩, _⟩ := st
    exact wpAny_pyIter_enum he h
/-! things that may be lists or tuples -/
def SeqA (H : Hp) (a : Addr) (xs : List V) : Prop := H a = some (.lst xs) ∨ H a = some (.tup xs)
section
variable {X : Cx} (K : PySem.W.Frag)
def gSeq (K : PySem.W.Frag) (n : Nat) (t : TGs) : TG := fun v σ H Q => ∃ a xs, v = .ref a ∧ SeqA H a xs ∧ xs.length = n ∧ t xs σ H Q
theorem kgSeq {es : List Expr} {k : Nat} {t : TGs} {n : Nat} {pos : Pos} (hc : X.calm = true) (h : PGs X es t)
    (hn : (assignEach es X.env).length = n := by rfl) (hst : (assignEach es X.env).findIdx? (·.1) = none := by rfl) (e : X.K = K := by rfl) : PG X (.Tuple es k pos) (gSeq K n t) := by
  refine ⟨fun pins s σ H v u Q I r hw => ?_⟩
  obtain ⟨a, xs, e1, hq, hl, hw⟩ := hw
  rcases hq with hq | hq
  · exact (pg_lst hc h hn hst).run pins s σ H v u Q I r ⟨a, xs, e1, SqL.of hq, hl, hw⟩
  · exact (pg_tup hc h hn hst).run pins s σ H v u Q I r ⟨a, xs, e1, SqT.of hq, hl, hw⟩
theorem kgTup {es : List Expr} {k : Nat} {t : TGs} {n : Nat} {pos : Pos} (hc : X.calm = true) (h : PGs X es t)
    (hn : (assignEach es X.env).length = n := by rfl) (hst : (assignEach es X.env).findIdx? (·.1) = none := by rfl) (e : X.K = K := by rfl) : PG X (.Tuple es k pos) (gTup K n t) := e ▸ pg_tup hc h hn hst
def rIxA (K : PySem.W.Frag) : R2 := fun x y H Q => ∃ p xs i v, x = .ref p ∧ y = .int i ∧ SeqA H p xs ∧ atI xs i = some v ∧ Q v H
theorem kIxA (h : X.K = K := by rfl) : IxR X (rIxA K) := by
  have z : IxR X (rIx X.K) := ix_seq
  intro value slice pins s σ H x y v u Q I rx ry h0 hs
  obtain ⟨p, xs, i, w, e1, e2, hq, ha, q⟩ := h0
  rcases hq with hq | hq
  · exact z value slice pins s σ H x y v u Q I rx ry (.inl ⟨p, xs, i, w, e1, e2, SqL.of hq, ha, q⟩) hs
  · exact z value slice pins s σ H x y v u Q I rx ry (.inr (.inl ⟨p, xs, i, w, e1, e2, SqT.of hq, ha, q⟩)) hs
/-- a walk over a list or a tuple -/
def iSeq (K : PySem.W.Frag) (tl : TE) : TI := fun σ H R => tl σ H fun x H1 => ∃ a xs, x = .ref a ∧ ((H1 a = some (.lst xs) ∧ R (Itl K a) H1) ∨ (H1 a = some (.tup xs) ∧ R (Itt K a) H1))
theorem kiSeq {tg l : Expr} {tl : TE} (hl : PE X l tl) (h : X.K = K := by rfl) : PI X tg l (iSeq K tl) := by
  subst h
  refine ⟨fun pins s σ H R I h => ?_⟩
  refine thn (hl.run pins s σ H _ I h) fun v s1 hv => ?_
  obtain ⟨x, H1, I1, r1, a, xs, rfl, q⟩ := hv
  cases r1
  have own : ∀ b ∈ [s1.heap.objs.size], FpOk X pins H1 b := fun b hb => by
    obtain rfl : b = s1.heap.objs.size := by simpa using hb
    exact I1.fpOk (Nat.le_refl _) (I1.hok.fresh (Nat.le_refl _))
  rcases q with ⟨hq, q⟩ | ⟨hq, q⟩
  · obtain ⟨its, rv, p, hz⟩ := I1.list (SqL.of hq)
    refine wpAny_pyIter_list p.isList ?_
    exact ⟨s1.heap.objs.size, [s1.heap.objs.size], _, _, H1, rfl, I1.kept (t' := s1.toks) fun b o e => Heap.get?_push_of_some _ e, turn_list a _, ⟨_, Heap.get?_push_size _ rfl, rfl, rfl⟩, own, q⟩
  · obtain ⟨its, rv, p, hz⟩ := I1.tuple (SqT.of hq)
    refine wpAny_pyIter_tuple (show s1.heap.IsTuple a its.toArray from p) ?_
    exact ⟨s1.heap.objs.size, [s1.heap.objs.size], _, _, H1, rfl, I1.kept (t' := s1.toks) fun b o e => Heap.get?_push_of_some _ e, turn_tuple a _, ⟨_, Heap.get?_push_size _ rfl, rfl, rfl⟩, own, q⟩
/-- enumerate of a list or a tuple -/
def iEnumA (K : PySem.W.Frag) (ta : TA) : TI := fun σ H R => ta σ H fun vs H1 => ∃ a xs, vs = [.ref a] ∧ ((H1 a = some (.lst xs) ∧ R (Ite K a) H1) ∨ (H1 a = some (.tup xs) ∧ R (Itet K a) H1))
theorem kiEnum {e : Expr} {ta : TA} {p pos tpos : Pos} {elts : List Expr} {kk : Nat} (hg : Gl X "enumerate") (hm : X.mg "enumerate" = none) (ha : PA X [e] ta)
    (hs : starEach [e] X.env = [(false, eval e X.env)] := by rfl) (h : X.K = K := by rfl) : PI X (.Tuple elts kk tpos) (.Call (.Name "enumerate" p) [e] [] pos) (iEnumA K ta) := by
  subst h
  refine ⟨fun pins s σ H R I h => ?_⟩
  refine Call_ (ld_blt I hg hm boot_enumerate (PyProof.Rows.callWith_type1 (thn (ha.run pos pins s σ H _ I h) fun us s1 hv => ?_) hs rfl))
  obtain ⟨vs, H1, I1, r1, a, xs, rfl, q⟩ := hv
  cases r1 with
  | cons r rr =>
    cases rr
    cases r
    have own : ∀ b ∈ [s1.heap.objs.size + 1, s1.heap.objs.size], FpOk X pins H1 b := fun b hb => by
      have e' : b = s1.heap.objs.size + 1 ∨ b = s1.heap.objs.size := by simpa using hb
      have hle : s1.heap.objs.size ≤ b := by
        rcases e' with z | z
        · rw [z]; exact Nat.le_add_right _ _
        · rw [z]; exact Nat.le_refl _
      exact I1.fpOk hle (I1.hok.fresh hle)
    rcases q with ⟨hq, q⟩ | ⟨hq, q⟩
    · obtain ⟨its, rv, p', hz⟩ := I1.list (SqL.of hq)
      refine call_enumerate_list p'.isList fun h' he hit hsz hk => wpAny_pyIter_enum he ?_
      have I2 : Inv X pins σ H1 { s1 with heap := h' } := I1.kept (t' := s1.toks) hk
      exact ⟨s1.heap.objs.size + 1, [s1.heap.objs.size + 1, s1.heap.objs.size], _, _, H1, rfl, I2, turn_enum a (s1.heap.objs.size + 1) s1.heap.objs.size, ⟨⟨.none, he⟩, hit, Nat.succ_ne_self _⟩, own, q⟩
    · obtain ⟨its, rv, p', hz⟩ := I1.tuple (SqT.of hq)
      have ht : s1.heap.IsTuple a its.toArray := p'
      have hal : a < s1.heap.objs.size := by obtain ⟨o, ho, _⟩ := ht; exact Heap.lt_size ho
      refine enum1_call (begins_tuple a its.toArray) ht fun h' he hit hk => wpAny_pyIter_enum he ?_
      have I2 : Inv X pins σ H1 { s1 with heap := h' } := I1.kept (t' := s1.toks) hk
      exact ⟨s1.heap.objs.size + 1, [s1.heap.objs.size + 1, s1.heap.objs.size], _, _, H1, rfl, I2, turn_enumT a (s1.heap.objs.size + 1) s1.heap.objs.size, ⟨⟨.none, he⟩, ⟨_, hit, rfl, rfl⟩, Nat.succ_ne_self _, Nat.ne_of_lt hal, Nat.ne_of_gt (Nat.lt_succ_of_lt hal)⟩, own, q⟩
end
theorem walk_enumT {K : PySem.W.Frag} {a : Addr} {xs : List V} : Walk (Itet K a) xs.length (fun H => SqT K H a xs) (YPair (fun i => some (.int (i : Nat))) (fun i => xs[i]?)) := by
  refine ⟨fun i _ hi q => ⟨xs, xs[i], q, by simp [hi]⟩, fun _ q => ⟨xs, q, Nat.le_refl _⟩, fun i H v H' _ q y => ?_⟩
  obtain ⟨T, x, h1, h2, h3, h4⟩ := y
  exact ⟨T, .int (i : Nat), x, h1, h2, h3, rfl, h4 xs q⟩
section
variable {σ : L2.St} {H : Hp} {te : TE} {ar : TA} {K : PySem.W.Frag} {i : Int} {v : V} {a p : Addr} {xs : List V} {Q : VK} {QS : L2.St → Hp → Prop}
theorem gseq {n : Nat} {tg : TGs} (h : SeqA H a xs) (e : xs.length = n) (q : tg xs σ H QS) : gSeq K n tg (.ref a) σ H QS := ⟨a, xs, rfl, h, e, q⟩
theorem ixA (h : SeqA H p xs) (e : atI xs i = some v) (q : Q v H) : rIxA K (.ref p) (.int i) H Q := ⟨p, xs, i, v, rfl, rfl, h, e, q⟩
theorem lenA (h : SeqA H p xs) (q : Q (.int xs.length) H) : rLenS K [.ref p] H Q := by
  rcases h with h | h
  · exact lenL h q
  · exact lenT (SqT.of h) q
theorem tupA (h : SeqA H p xs) (h1 : ∀ l, H l = none → Q (.ref l) (upd H l (.tup xs))) (h2 : H p = some (.tup xs) → Q (.ref p) H) : rTupS K [.ref p] H Q := by
  rcases h with h | h
  · exact tupL h h1
  · exact tupT (SqT.of h) (h2 h)
theorem itseq {R : It → Hp → Prop} (q : te σ H fun x H1 => ∃ a xs, x = .ref a ∧ ((H1 a = some (.lst xs) ∧ R (Itl K a) H1) ∨ (H1 a = some (.tup xs) ∧ R (Itt K a) H1))) : iSeq K te σ H R := q
theorem itenum {R : It → Hp → Prop} (q : ar σ H fun vs H1 => ∃ a xs, vs = [.ref a] ∧ ((H1 a = some (.lst xs) ∧ R (Ite K a) H1) ∨ (H1 a = some (.tup xs) ∧ R (Itet K a) H1))) : iEnumA K ar σ H R := q
theorem SeqA.same {H H' : Hp} (s : Same H H') (h : SeqA H a xs) : SeqA H' a xs := h.elim (fun z => .inl (s _ _ z)) (fun z => .inr (s _ _ z))
theorem SeqA.new {o : HO} (h : SeqA H a xs) (n : H p = none) : SeqA (upd H p o) a xs := SeqA.same (same_new (Same.refl H) n) h
/-- a for over enumerate of either -/
theorem for_enum {g : TG} {tb : TS} {D : Ends} {σ : L2.St} {H : Hp} (h : SeqA H a xs) (Pv : Nat → L2.St → Hp → Prop) (h0 : Pv 0 σ H) (hG : ∀ i σ' H', i ≤ xs.length → Pv i σ' H' → ∀ o, H a = some o → H' a = some o)
    (hs : ∀ i x σ' H' T, xs[i]? = some x → Pv i σ' H' → H' T = none → g (.ref T) σ' (upd H' T (.tup [.int (i : Nat), x])) fun σ2 H2 => tb { D with nx := Pv (i + 1), ct := Pv (i + 1), bk := D.nx } σ2 H2)
    (hd : ∀ σ' H', Pv xs.length σ' H' → D.nx σ' H') : ∃ a' xs', [V.ref a] = [.ref a'] ∧ ((H a' = some (.lst xs') ∧ ForW (Ite K a') g tb D σ H) ∨ (H a' = some (.tup xs') ∧ ForW (Itet K a') g tb D σ H)) := by
  rcases h with h | h
  · refine ⟨a, xs, rfl, .inl ⟨h, ?_⟩⟩
    refine for_it (walk_enum (K := K) (a := a) (xs := xs)) Pv h0 (fun i σ' H' hi hp => SqL.of (hG i σ' H' hi hp _ h)) ?_ hd
    rintro i x σ' H' H2 hi hp ⟨T, x1, x2, rfl, hT, rfl, e1, e2⟩
    cases e1
    exact hs i x2 σ' H' T e2 hp hT
  · refine ⟨a, xs, rfl, .inr ⟨h, ?_⟩⟩
    refine for_it (walk_enumT (K := K) (a := a) (xs := xs)) Pv h0 (fun i σ' H' hi hp => SqT.of (hG i σ' H' hi hp _ h)) ?_ hd
    rintro i x σ' H' H2 hi hp ⟨T, x1, x2, rfl, hT, rfl, e1, e2⟩
    cases e1
    exact hs i x2 σ' H' T e2 hp hT
/-- a comprehension over either -/
theorem lc_seq {g : TG} {tt : TT} {te : TE} {ws : List Nat} {σ : L2.St} {H : Hp} {QQ : VK} (h : SeqA H a xs) (Pv : Addr → Nat → Hp → Prop) (h0 : ∀ D, H D = none → Pv D 0 (upd H D (.lst []))) (hG : ∀ D i H', i ≤ xs.length → Pv D i H' → ∀ o, H a = some o → H' a = some o)
    (hs : ∀ D i x H', H D = none → xs[i]? = some x → Pv D i H' → g x (wipe σ ws) H' fun σ2 H2 => wipe σ2 ws = wipe σ ws ∧ tt σ2 H2 fun b H3 => if b = true then te σ2 H3 fun y H4 => ∃ acc, H4 D = some (.lst acc) ∧ acc.length < sizeLine ∧ Pv D (i + 1) (upd H4 D (.lst (acc ++ [y]))) else Pv D (i + 1) H3)
    (hd : ∀ D H', H D = none → Pv D xs.length H' → QQ (.ref D) H') :
    ∃ a' xs', V.ref a = .ref a' ∧ ((H a' = some (.lst xs') ∧ ∀ D, H D = none → LcW (Itl K a') g tt te ws σ H D QQ) ∨ (H a' = some (.tup xs') ∧ ∀ D, H D = none → LcW (Itt K a') g tt te ws σ H D QQ)) := by
  rcases h with h | h
  · refine ⟨a, xs, rfl, .inl ⟨h, fun D hD => ?_⟩⟩
    refine lc_it (walk_list (K := K) (a := a) (xs := xs)) (Pv D) (h0 D hD) (fun i H' hi hp => SqL.of (hG D i H' hi hp _ h)) ?_ (fun H' hp => hd D H' hD hp)
    rintro i x H' H2 hi hp ⟨rfl, e⟩
    exact hs D i x H2 hD e hp
  · refine ⟨a, xs, rfl, .inr ⟨h, fun D hD => ?_⟩⟩
    refine lc_it (walk_tup (K := K) (a := a) (xs := xs)) (Pv D) (h0 D hD) (fun i H' hi hp => SqT.of (hG D i H' hi hp _ h)) ?_ (fun H' hp => hd D H' hD hp)
    rintro i x H' H2 hi hp ⟨rfl, e⟩
    exact hs D i x H2 hD e hp
end
section
variable {Q : VK} {H : Hp} {A B : Prop}
theorem itBn {b : Bool} (h1 : b = false → A) (h2 : b = true → B) : if (!b) = true then A else B := by
  cases b with
  | true => exact h2 rfl
  | false => exact h1 rfl
end
/-! dicts whose keys are texts -/
section
variable {σ : L2.St} {H : Hp} {td ty tv : TE} {d : Addr} {kvs : List (Key × V)} {z : Str} {v : V} {Q : VK} {D : Ends}
theorem dnew (q : ∀ p, H p = none → Q (.ref p) (upd H p (.dK []))) : tDNewK σ H Q := q
theorem din_ (q : ty σ H fun y H1 => td σ H1 fun x H2 => ∃ a o, x = .ref a ∧ DGet H2 a y o ∧ Q (.bl o.isSome) H2) : tDIn ty td σ H Q := q
theorem din {QO : Option V → Prop} (h : H d = some (.dK kvs)) (q : QO (valV kvs (Sum.inr z : Key))) : ∃ a o, V.ref d = .ref a ∧ DGet H a (.str z) o ∧ QO o :=
  ⟨d, valV kvs (Sum.inr z : Key), rfl, DGet.k (k := (Sum.inr z : Key)) h, q⟩
theorem dput_ (q : tv σ H fun v H1 => td σ H1 fun x H2 => ty σ H2 fun y H3 => ∃ a H4, x = .ref a ∧ DPut H3 a y v H4 ∧ D.nx σ H4) : sDPut td ty tv D σ H := q
theorem dput {QH : Hp → Prop} (h : H d = some (.dK kvs)) (hl : kvs.length < sizeLine) (q : QH (upd H d (.dK (putK kvs (Sum.inr z : Key) v)))) : ∃ a H4, V.ref d = .ref a ∧ DPut H a (.str z) v H4 ∧ QH H4 :=
  ⟨d, _, rfl, DPut.k (k := (Sum.inr z : Key)) h hl, q⟩
def wordKs (ws : List Str) : List (Key × V) := ws.map fun w => ((Sum.inr w : Key), V.bl true)
theorem wordKs_in (z : Str) : ∀ ws : List Str, (valV (wordKs ws) (Sum.inr z : Key)).isSome = decide (z ∈ ws)
  | [] => rfl
  | w :: ws => by
    have ih := wordKs_in z ws
    unfold wordKs at ih ⊢
    rw [List.map_cons]
    by_cases h : w = z
    · rw [valV_pos (by rw [h])]
      simp [h]
    · rw [valV_neg (fun q => h (Sum.inr.inj q)), ih]
      have h' : z ≠ w := fun q => h q.symm
      simp [h']
theorem wordKs_put (z : Str) (ws : List Str) (h : z ∉ ws) : putK (wordKs ws) (Sum.inr z : Key) (.bl true) = wordKs (ws ++ [z]) := by
  have e := wordKs_in z ws
  rw [decide_eq_false h] at e
  have e' : valV (wordKs ws) (Sum.inr z : Key) = none := by
    cases q : valV (wordKs ws) (Sum.inr z : Key) with
    | none => rfl
    | some v => rw [q] at e; cases e
  rw [putK_new _ e']
  unfold wordKs
  rw [List.map_append]
  rfl
end
section
variable {X : Cx} (K : PySem.W.Frag)
theorem kFldS {st : Stmt} {ta tv : TE} {f : Str} (hp : PS X st (sFld X.K ta tv f)) (h : X.K = K := by rfl) : PS X st (sFld K ta tv f) := h ▸ hp
end
section
variable {σ : L2.St} {H : Hp} {ta tv tk te : TE} {D : Ends} {K : PySem.W.Frag} {f : Str} {Q : VK}
theorem sfld (q : tv σ H fun y H1 => ta σ H1 fun x H2 => ∃ a C dx fs, x = .ref a ∧ H2 a = some (.ins C dx fs) ∧ Cls K C ∧ NoAttr K C f ∧ fs.length < 1000 ∧ D.nx σ (upd H2 a (.ins C dx (putF f y fs)))) : sFld K ta tv f D σ H := q
theorem sfldE {QH : Hp → Prop} {x C dx : Addr} {fs : List (Str × V)} {y : V} {H2 : Hp} (h : H2 x = some (.ins C dx fs)) (c : Cls K C) (n : NoAttr K C f) (l : fs.length < 1000) (q : QH (upd H2 x (.ins C dx (putF f y fs)))) :
    ∃ a C dx fs, V.ref x = .ref a ∧ H2 a = some (.ins C dx fs) ∧ Cls K C ∧ NoAttr K C f ∧ fs.length < 1000 ∧ QH (upd H2 a (.ins C dx (putF f y fs))) := ⟨x, C, dx, fs, rfl, h, c, n, l, q⟩
theorem fld_ (q : ta σ H fun x H1 => ∃ a C dx fs v, x = .ref a ∧ H1 a = some (.ins C dx fs) ∧ Cls K C ∧ NoAttr K C f ∧ fs.lookup f = some v ∧ Q v H1) : tFld K ta f σ H Q := q
theorem fldE {QV : V → Prop} {x C dx : Addr} {fs : List (Str × V)} {v : V} (h : H x = some (.ins C dx fs)) (c : Cls K C) (n : NoAttr K C f) (l : fs.lookup f = some v) (q : QV v) :
    ∃ a C dx fs v, V.ref x = .ref a ∧ H a = some (.ins C dx fs) ∧ Cls K C ∧ NoAttr K C f ∧ fs.lookup f = some v ∧ QV v := ⟨x, C, dx, fs, v, rfl, h, c, n, l, q⟩
/-- the turns of a dict comprehension whose dict is at D -/
def DcW (J : It) (g : TG) (tt : TT) (tk tv : TE) (vs : List Nat) (σ : L2.St) (H1 : Hp) (D : Addr) (Q : VK) : Prop :=
  ∃ W : Nat → Nat → Hp → Prop, (∃ m, W 0 m (upd H1 D (.dK []))) ∧
    ∀ i m H, W i m H → (J.stop i H ∧ Q (.ref D) H) ∨
      (J.go i H ∧ ∃ Nx : Hp → Prop, (∀ H', Nx H' → ∃ m', m' < m ∧ W (i + 1) m' H') ∧
        ∀ x H', J.yld i H x H' → g x (wipe σ vs) H' fun σ2 H2 => wipe σ2 vs = wipe σ vs ∧
          tt σ2 H2 fun b H3 => if b = true then tk σ2 H3 fun y H4 => tv σ2 H4 fun z H5 => ∃ kvs k, y = kV k ∧ H5 D = some (.dK kvs) ∧ kvs.length < sizeLine ∧ Nx (upd H5 D (.dK (putK kvs k z))) else Nx H3)
theorem dc {wi : TI} {g : TG} {tt : TT} {vs : List Nat} (q : wi σ H fun J H1 => ∀ D, H1 D = none → DcW J g tt tk tv vs σ H1 D Q) : tDc wi g tt tk tv vs σ H Q := q
end
section
variable {σ : L2.St} {H : Hp} {td ty : TE} {d : Addr} {kvs : List (Key × V)} {z : Str} {Q : VK} {K : PySem.W.Frag}
theorem dget1_ (q : td σ H fun x H1 => ∃ a, x = .ref a ∧ IsD H1 a ∧ ty σ H1 fun y H2 => ∃ o, DGet H2 a y o ∧ Q (o.getD .non) H2) : tDGet1 td ty σ H Q := q
theorem dgetE {QA : Addr → Prop} (h : H d = some (.dK kvs)) (q : QA d) : ∃ a, V.ref d = .ref a ∧ IsD H a ∧ QA a := ⟨d, rfl, .inl ⟨kvs, .inl h⟩, q⟩
theorem dgetO {QO : Option V → Prop} (h : H d = some (.dK kvs)) (q : QO (valV kvs (Sum.inr z : Key))) : ∃ o, DGet H d (.str z) o ∧ QO o := ⟨_, DGet.k (k := (Sum.inr z : Key)) h, q⟩
end
end R
end
section
set_option Elab.async false
set_option linter.all false
set_option maxRecDepth 100000
set_option maxHeartbeats 4000000
/-! further steps -/
namespace R
open PySem L2 SX C8
section
variable {X : Cx} (K : PySem.W.Frag)
theorem kSum (hc : X.calm = true := by rfl) (h : X.K = K := by rfl) : CallR X (.builtin "sum") (rSum K) := h ▸ cr_sum hc
theorem kAny (hc : X.calm = true := by rfl) (h : X.K = K := by rfl) : CallR X (.builtin "any") (rAny K) := h ▸ cr_any hc
theorem kRevL {e : Expr} {te : TE} {k : Nat} {p1 p2 p3 pos : Pos} (he : PE X e te) (h : X.K = K := by rfl) : PE X (.Subscript e (.Slice none none (some (.UnaryOp .USub (.Constant (.int 1) k p1) p2)) p3) pos) (tRevL K te) := h ▸ pe_revL he
end
section
variable {σ : L2.St} {H : Hp} {td ty te : TE} {d p : Addr} {kvs : List (Key × V)} {z : Str} {v : V} {Q : VK} {K : PySem.W.Frag} {xs : List V} {A B : Prop}
theorem sum_ {ns : List Int} (h : H p = some (.lst (ns.map V.int))) (q : Q (.int ns.sum) H) : rSum K [.ref p] H Q := ⟨p, ns, rfl, SqL.of h, q⟩
theorem any_ {bs : List Bool} (h : H p = some (.lst (bs.map V.bl))) (q : Q (.bl (bs.any id)) H) : rAny K [.ref p] H Q := ⟨p, bs, rfl, SqL.of h, q⟩
theorem dget_ (q : td σ H fun x H1 => ty σ H1 fun y H2 => ∃ a v, x = .ref a ∧ DGet H2 a y (some v) ∧ Q v H2) : tDGet td ty σ H Q := q
theorem dgetS {QV : V → Prop} (h : H d = some (.dK kvs)) (e : valV kvs (Sum.inr z : Key) = some v) (q : QV v) : ∃ a v, V.ref d = .ref a ∧ DGet H a (.str z) (some v) ∧ QV v :=
  ⟨d, v, rfl, e ▸ DGet.k (k := (Sum.inr z : Key)) h, q⟩
theorem revL_ (q : te σ H fun x H1 => ∃ a xs, x = .ref a ∧ SqL K H1 a xs ∧ ∀ p, H1 p = none → Q (.ref p) (upd H1 p (.lst xs.reverse))) : tRevL K te σ H Q := q
theorem slLN {lo hi : Option Int} (h : H p = some (.lst xs)) (q : ∀ a H', Same H H' → H a = none → H' a = some (.lst (cutV xs lo hi)) → Q (.ref a) H') : rSlL K (.ref p) lo hi H Q :=
  ⟨p, xs, rfl, SqL.of h, fun a ha => q a _ (same_new (Same.refl H) ha) ha upd_same⟩
theorem catL {a b : Addr} {ys : List V} (h1 : H a = some (.lst xs)) (h2 : H b = some (.lst ys)) (hz : xs.length + ys.length ≤ sizeLine) (q : ∀ p, H p = none → Q (.ref p) (upd H p (.lst (xs ++ ys)))) : rCat (.ref a) (.ref b) H Q :=
  ⟨a, b, xs, ys, rfl, rfl, h1, h2, hz, q⟩
end
section
variable {σ : L2.St} {H : Hp} {te : TE} {tl th : TO} {Q : VK} {QO : Option Int → Hp → Prop} {j : Int}
theorem sl_ {r : V → Option Int → Option Int → Hp → VK → Prop} (q : te σ H fun x H1 => tl σ H1 fun l H2 => th σ H2 fun u H3 => r x l u H3 Q) : tSl r te tl th σ H Q := q
theorem np_ (q : QO none H) : tNoPart σ H QO := q
theorem pt_ (q : te σ H fun x H1 => ∃ i, x = .int i ∧ QO (some i) H1) : tPart te σ H QO := q
theorem ptE {B : Int → Prop} (q : B j) : ∃ i, V.int j = .int i ∧ B i := ⟨j, rfl, q⟩
theorem disp {trs : List (TE × TE)} (q : ∀ p, H p = none → tPairs trs σ (upd H p (.dK [])) fun ps H2 => H2 p = some (.dK []) ∧ ∃ kvs : List (Key × V), ps = kvs.map (fun kv => (kV kv.1, kv.2)) ∧ kvs.length ≤ 15 ∧ Q (.ref p) (upd H2 p (.dK (mergeK [] kvs)))) : tDisp trs σ H Q := q
end
theorem brk {D : Ends} {σ : L2.St} {H : Hp} (q : D.bk σ H) : tBreak D σ H := q
theorem meth_ {C : Addr} {m : Str} {sp : Sp} {dvs : List V} {E : XK} {σ : L2.St} {H : Hp} {ta : TE} {t : TA} {Q : VK} (q : ta σ H fun x H1 => ∃ a dx fs, x = .ref a ∧ H1 a = some (.ins C dx fs) ∧ fs.lookup m = none ∧ t σ H1 fun vs H2 => sp (x :: (vs ++ dvs)) H2 Q E) : tMeth C m sp dvs E ta t σ H Q := q
@[elab_as_elim] theorem gen {C : Hp → Prop} {H : Hp} {p : Addr} {o : HO} (n : H p = none) (q : ∀ H', Same H H' → H' p = some o → C H') : C (upd H p o) := q _ (same_new (Same.refl H) n) upd_same
theorem cut_to (xs : List V) {j : Int} (h0 : 0 ≤ j) : cutV xs none (some j) = xs.take j.toNat := by
  unfold cutV
  have e0 : HT.sIx xs.length 0 none = 0 := rfl
  have e1 : HT.sIx xs.length xs.length (some j) = min j.toNat xs.length := by
    show (if j < 0 then (j + (xs.length : Int)).toNat else min j.toNat xs.length) = _
    rw [if_neg (by omega)]
  rw [e0, e1, List.drop_zero, Nat.sub_zero]
  rw [← List.take_take, List.take_length]
def rIntB : List V → Hp → VK → Prop := fun xs H Q => ∃ k, xs = [.bl k] ∧ Q (.int (if k then 1 else 0)) H
theorem intB {H : Hp} {Q : VK} {b : Bool} (q : Q (.int (if b = true then 1 else 0)) H) : rIntB [.bl b] H Q := ⟨b, rfl, q⟩
section
variable {σ : L2.St} {H : Hp} {td ty tx te : TE} {d : Addr} {kvs : List (Key × V)} {n : Int} {v : V} {Q : VK} {D : Ends} {k : Nat} {tc : TT} {tb : TS}
theorem dget2_ (q : td σ H fun x H1 => ∃ a, x = .ref a ∧ IsD H1 a ∧ ty σ H1 fun y H2 => tx σ H2 fun z H3 => ∃ o, DGet H3 a y o ∧ Q (o.getD z) H3) : tDGet2 td ty tx σ H Q := q
theorem aug_ {ti : TIp} {x : V} (h : σ[k]? = some (some x)) (q : te σ H fun y H1 => ti x y H1 fun z H2 => D.nx (σ.set k (some z)) H2) : tAug k te ti D σ H := ⟨x, h, q⟩
theorem ipI_ {f : Int → Int → Int} {i j : Int} (q : Q (.int (f i j)) H) : ipI f (.int i) (.int j) H Q := ⟨i, j, rfl, rfl, q⟩
end
theorem rng2 {σ : L2.St} {H : Hp} {ar : TA} {R : It → Hp → Prop} (q : ar σ H fun vs H1 => ∃ i j : Int, vs = [.int i, .int j] ∧ (-(2 ^ 62) ≤ i ∧ i < 2 ^ 62 ∧ -(2 ^ 62) ≤ j ∧ j < 2 ^ 62) ∧ R (Itr i (j - i).toNat) H1) : iRng2 ar σ H R := q
theorem rngE2 {i j : Int} {B : Int → Int → Prop} (h : -(2 ^ 62) ≤ i ∧ i < 2 ^ 62 ∧ -(2 ^ 62) ≤ j ∧ j < 2 ^ 62) (q : B i j) : ∃ i' j' : Int, [V.int i, .int j] = [.int i', .int j'] ∧ (-(2 ^ 62) ≤ i' ∧ i' < 2 ^ 62 ∧ -(2 ^ 62) ≤ j' ∧ j' < 2 ^ 62) ∧ B i' j' := ⟨i, j, rfl, h, q⟩
/-- the dict of a drawn system's two lists -/
def rowsKs (s m : Addr) : List (Key × V) := [(Sum.inr (Str.ofString "simple"), .ref s), (Sum.inr (Str.ofString "multipliers"), .ref m)]
theorem rowsS (s m : Addr) : valV (rowsKs s m) (Sum.inr (Str.ofString "simple") : Key) = some (.ref s) := valV_pos rfl
theorem rowsM (s m : Addr) : valV (rowsKs s m) (Sum.inr (Str.ofString "multipliers") : Key) = some (.ref m) := by
  unfold rowsKs
  rw [valV_neg (show ¬ ((Sum.inr (Str.ofString "simple") : Key) = Sum.inr (Str.ofString "multipliers")) by decide)]
  exact valV_pos rfl
theorem rowsMerge (s m : Addr) : mergeK [] (rowsKs s m) = rowsKs s m := by
  unfold rowsKs
  rfl
end R
end
section
set_option Elab.async false
set_option linter.all false
set_option maxRecDepth 100000
set_option maxHeartbeats 4000000
set_option pp.maxSteps 1500
set_option pp.deepTerms false
namespace PySem
end PySem
namespace R
open PySem L2 SX C8 PySem.Spec PyProof.Rows PyProof
end R
namespace R
open PySem L2 SX C8 PySem.Spec PyProof.Rows PyProof
/-- the inner turns of a comprehension of two loops -/
def LcI (J1 : It) (g1 : TG) (tt1 : TT) (te : TE) (vs1 : List Nat) (σ2 : L2.St) (H4 : Hp) (D : Addr) (Nx : Hp → Prop) : Prop :=
  ∃ W1 : Nat → Nat → Hp → Prop, (∃ m, W1 0 m H4) ∧ ∀ j k H, W1 j k H →
      (J1.stop j H ∧ Nx H) ∨ (J1.go j H ∧ ∃ Nx1 : Hp → Prop, (∀ H', Nx1 H' → ∃ k', k' < k ∧ W1 (j + 1) k' H') ∧ ∀ x H', J1.yld j H x H' → g1 x (wipe σ2 vs1) H' fun σ3 H5 => wipe σ3 vs1 = wipe σ2 vs1 ∧ tt1 σ3 H5 fun b H6 =>
        if b = true then te σ3 H6 fun y H7 => ∃ acc, H7 D = some (.lst acc) ∧ acc.length < sizeLine ∧ Nx1 (upd H7 D (.lst (acc ++ [y]))) else Nx1 H6)
/-- its outer ones -/
def LcO (J : It) (g : TG) (tt : TT) (wi1 : TI) (g1 : TG) (tt1 : TT) (te : TE) (vs vs1 : List Nat) (σ : L2.St) (H1 : Hp) (D : Addr) (Q : VK) : Prop :=
  ∃ W : Nat → Nat → Hp → Prop, (∃ m, W 0 m (upd H1 D (.lst []))) ∧ ∀ i m H, W i m H →
  (J.stop i H ∧ Q (.ref D) H) ∨ (J.go i H ∧ ∃ Nx : Hp → Prop, (∀ H', Nx H' → ∃ m', m' < m ∧ W (i + 1) m' H') ∧ ∀ x H', J.yld i H x H' → g x (wipe σ vs) H' fun σ2 H2 => wipe σ2 vs = wipe σ vs ∧ tt σ2 H2 fun b H3 =>
    if b = true then wi1 σ2 H3 fun J1 H4 => LcI J1 g1 tt1 te vs1 σ2 H4 D Nx else Nx H3)
section
variable {wi wi1 : TI} {g g1 : TG} {tt tt1 : TT} {te : TE} {vs vs1 : List Nat} {σ : L2.St} {H : Hp} {Q : VK}
theorem lc2 (q : wi σ H fun J H1 => ∀ D, H1 D = none → LcO J g tt wi1 g1 tt1 te vs vs1 σ H1 D Q) : tLc2 wi g tt wi1 g1 tt1 te vs vs1 σ H Q := q
end
/-- a built-in function called with keywords -/
theorem ckw {r : List V → List V → Hp → VK → Prop} {ar tk : TA} {σ : L2.St} {H : Hp} {Q : VK} (q : ar σ H fun vs H1 => tk σ H1 fun zs H2 => r vs zs H2 Q) : tCKw r ar tk σ H Q := q
theorem dsetd {td ty tx : TE} {σ : L2.St} {H : Hp} {Q : VK} (q : td σ H fun x H1 => ∃ a, x = .ref a ∧ IsD H1 a ∧ ty σ H1 fun y H2 => tx σ H2 fun z H3 => ∃ (kvs : List (Key × V)) (k : Key), H3 a = some (.dK kvs) ∧ y = kV k ∧ kvs.length < sizeLine ∧
  (∀ v, valV kvs k = some v → Q v H3) ∧ (valV kvs k = none → Q z (upd H3 a (.dK (putK kvs k z))))) : tDSetd td ty tx σ H Q := q
theorem dnotin_ {td ty : TE} {σ : L2.St} {H : Hp} {Q : VK} (q : ty σ H fun y H1 => td σ H1 fun x H2 => ∃ a o, x = .ref a ∧ DGet H2 a y o ∧ Q (.bl (!o.isSome)) H2) : tDNotIn ty td σ H Q := q
theorem itrev {K : PySem.W.Frag} {ta : TA} {σ : L2.St} {H : Hp} {R : It → Hp → Prop} (q : ta σ H fun vs H1 => ∃ (a : Addr) (xs : List V), vs = [.ref a] ∧ SqL K H1 a xs ∧ R (Itv K a xs.length) H1) : iRev K ta σ H R := q
theorem truL' {K : PySem.W.Frag} {H : Hp} {a : Addr} {xs : List V} {QB : Bool → Prop} (h : H a = some (.lst xs)) (q : QB (!xs.isEmpty)) : ∃ k, TruV K (.ref a) H k ∧ QB k := ⟨_, .inl ⟨xs, SqL.of h, rfl⟩, q⟩
theorem par {i j : Nat} {ta : TA} {D : Ends} {σ : L2.St} {H : Hp} (q : ta σ H fun vs H1 => ∃ v w, vs = [v, w] ∧ D.nx ((σ.set i (some v)).set j (some w)) H1) : tPar i j ta D σ H := q
theorem parE {v w : V} {P : V → V → Prop} (q : P v w) : ∃ v' w', [v, w] = [v', w'] ∧ P v' w' := ⟨v, w, rfl, q⟩
end R
end
section
set_option Elab.async false
set_option linter.all false
set_option maxRecDepth 100000
set_option maxHeartbeats 4000000
set_option pp.maxSteps 1500
set_option pp.deepTerms false
local macro_rules | `(tactic| walk_at "ne") => `(tactic| first
  | assumption | (apply Ne.symm; assumption)
  | exact R.ne_new (by assumption) | exact (R.ne_new (by assumption)).symm
  | exact L2.ne_of_none (by assumption) (by assumption) | exact (L2.ne_of_none (by assumption) (by assumption)).symm
  | exact L2.ne_of_none (by assumption) (R.free_new (by assumption)) | exact (L2.ne_of_none (by assumption) (R.free_new (by assumption))).symm)
local macro_rules | `(tactic| walk_at "at") => `(tactic| first
  | assumption | exact L2.upd_same
  | (refine R.sb (H := ?H) (p := ?p) ?e ?n ?h; (case e => assumption); (case n => walk_at "ne"); (case h => walk_at "at"))
  | (refine R.sm (H := ?H) ?e ?h; (case e => assumption); (case h => walk_at "at"))
  | (refine Eq.trans (L2.upd_ne ?_) ?_ <;> first | walk_at "ne" | walk_at "at"))
local macro_rules | `(tactic| walk_at "sqt") => `(tactic| first | assumption | (refine L2.SqT.of ?_; walk_at "at"))
local macro_rules | `(tactic| walk_at "ty") => `(tactic| first | exact R.tyN | exact R.tyB | exact R.tyI | exact R.tyS | (refine R.tyT (xs := ?xs) ?h; case h => walk_at "at") | (refine R.tyL (xs := ?xs) ?h; case h => walk_at "at"))
local macro_rules | `(tactic| walk_at "kit") => `(tactic| first | exact R.kit_NoneType_tuple | exact R.kit_NoneType_list | exact R.kit_NoneType_bool | exact R.kit_NoneType_str | exact R.kit_NoneType_int | exact R.kit_bool_tuple | exact R.kit_bool_list | exact R.kit_bool_bool | exact R.kit_bool_str | exact R.kit_bool_int | exact R.kit_int_tuple | exact R.kit_int_list | exact R.kit_int_bool | exact R.kit_int_str | exact R.kit_int_int | exact R.kit_str_tuple | exact R.kit_str_list | exact R.kit_str_bool | exact R.kit_str_str | exact R.kit_str_int | exact R.kit_tuple_tuple | exact R.kit_tuple_list | exact R.kit_tuple_bool | exact R.kit_tuple_str | exact R.kit_tuple_int | exact R.kit_list_tuple | exact R.kit_list_list | exact R.kit_list_bool | exact R.kit_list_str | exact R.kit_list_int)
local macro_rules | `(tactic| walk_at "sz") => `(tactic| first | assumption | (refine Nat.le_trans ?_ (show 1000 ≤ PySem.sizeLine by decide); omega) | decide)
local macro_rules | `(tactic| walk_at "szl") => `(tactic| first | assumption | exact Nat.le_of_lt (L2.small1000 (by omega)) | decide | decide +kernel)
local macro_rules | `(tactic| walk_at "sys") => `(tactic| first | assumption | exact KN.SysAt.same (by assumption) (by assumption))
local macro_rules | `(tactic| walk_at "dk") => `(tactic| first | exact R.rowsS _ _ | exact R.rowsM _ _)
local macro_rules | `(tactic| walk_at "sqa") => `(tactic| first | assumption | exact R.SeqA.same (by assumption) (by assumption) | exact R.SeqA.new (by assumption) (by assumption) | (exact Or.inl (by walk_at "at")) | (exact Or.inr (by walk_at "at")))
local macro_rules | `(tactic| walk_at "ix") => `(tactic| first | rfl | (exact L2.atI_nat (by assumption)) | assumption)
local macro_rules | `(tactic| walk_at "cond") => `(tactic| first
  | exact Or.inl (by decide) | exact Or.inr (by decide) | exact Or.inl ⟨by omega, by omega⟩ | exact Or.inr ⟨by omega, by omega⟩
  | (constructor <;> omega) | (show _ ≠ _; omega) | decide | omega)
local macro_rules | `(tactic| walk_at "r1") => `(tactic| first
  | ((with_reducible refine R.var (v := ?v) ?h ?q); case h => rfl)
  | with_reducible apply R.cons
  | with_reducible apply R.c
  | with_reducible apply R.nil
  | with_reducible apply R.op
  | with_reducible apply R.gname
  | with_reducible apply R.seq
  | with_reducible apply R.call
  | with_reducible apply R.asg
  | with_reducible apply R.ex
  | with_reducible apply R.tst
  | with_reducible apply R.i0
  | with_reducible apply R.ifs
  | with_reducible apply R.ret
  | with_reducible apply R.retN
  | with_reducible apply R.drop
  | with_reducible apply R.next
  | with_reducible apply R.tb_
  | with_reducible apply R.eqI
  | with_reducible apply R.neI
  | ((with_reducible refine R.ic ?_ ?_); · walk_at "cond")
  | with_reducible apply R.u0
  | with_reducible apply R.un
  | ((with_reducible refine R.eq ?_ ?_); · rfl)
  | ((with_reducible refine R.ne ?_ ?_); · rfl)
  | with_reducible apply R.and_
  | with_reducible apply R.or_
  | with_reducible apply R.not_
  | with_reducible apply R.ife
  | with_reducible apply R.chain
  | with_reducible apply R.cb
  | with_reducible apply R.bm
  | with_reducible apply R.gsub
  | with_reducible apply R.gnil
  | with_reducible apply R.gcons
  | with_reducible apply R.yes
  | with_reducible apply R.int1
  | ((with_reducible refine R.lenL (xs := ?xs) ?h ?q); case h => walk_at "at")
  | ((with_reducible refine R.ixL (xs := ?xs) (v := ?v) ?h ?e ?q); (case h => walk_at "at"); (case e => walk_at "ix"))
  | ((with_reducible refine R.setL (xs := ?xs) (n := ?n) ?h ?e ?q); (case h => walk_at "at"); (case e => rfl))
  | ((with_reducible refine R.append (xs := ?xs) ?h ?e ?q); (case h => walk_at "at"); (case e => walk_at "cond"))
  | with_reducible apply R.is_
  | with_reducible apply R.isnot
  | with_reducible apply R.andV
  | with_reducible apply R.orV
  | with_reducible apply R.notV
  | ((with_reducible refine R.isi (s := ?s) (b := ?b) ?ty ?h ?q); (case ty => walk_at "ty"); (case h => walk_at "kit"))
  | ((with_reducible refine R.addS ?h ?q); (case h => walk_at "sz"))
  | with_reducible apply R.max2
  | with_reducible apply R.min2
  | ((with_reducible refine R.lenStr ?h ?q); (case h => walk_at "szl"))
  | ((with_reducible refine R.ixS (n := ?n) ?h ?e ?q); (case h => walk_at "szl"); (case e => walk_at "ix"))
  | ((with_reducible refine R.tyl (xs := ?xs) ?h ?q); (case h => walk_at "at"))
  | with_reducible apply R.itlist
  | with_reducible apply R.ittup
  | with_reducible apply R.m1
  | with_reducible apply R.m1s
  | with_reducible apply R.leS
  | with_reducible apply R.itstr
  | with_reducible apply R.itstrE
  | with_reducible apply R.lc
  | with_reducible apply R.lc2
  | with_reducible apply R.ckw
  | with_reducible apply R.par
  | with_reducible apply R.parE
  | with_reducible apply R.itrev
  | with_reducible apply R.dsetd
  | with_reducible apply R.dnotin_
  | with_reducible apply R.for_
  | ((with_reducible refine R.all_ (bs := ?bs) ?h ?q); (case h => walk_at "at"))
  | with_reducible apply R.rng1
  | ((with_reducible refine R.rngE ?h ?q); (case h => (constructor <;> omega)))
  | ((with_reducible refine R.lenT (xs := ?xs) ?h ?q); (case h => walk_at "sqt"))
  | ((with_reducible refine R.ixT (xs := ?xs) (v := ?v) ?h ?e ?q); (case h => walk_at "sqt"); (case e => walk_at "ix"))
  | ((refine R.itlE (xs := ?xs) ?h ?q); (case h => walk_at "at"))
  | ((refine R.ittE (xs := ?xs) ?h ?q); (case h => walk_at "at"))
  | ((refine R.gseq (xs := ?xs) ?h ?e ?q); (case h => walk_at "sqa"); (case e => rfl))
  | ((refine R.ixA (xs := ?xs) (v := ?v) ?h ?e ?q); (case h => walk_at "sqa"); (case e => walk_at "ix"))
  | ((refine R.lenA (xs := ?xs) ?h ?q); (case h => walk_at "sqa"))
  | ((with_reducible refine R.gtup (xs := ?xs) ?h ?e ?q); (case h => walk_at "sqt"); (case e => rfl))
  | with_reducible apply R.din_
  | with_reducible apply R.dput_
  | with_reducible apply R.dget2_
  | ((with_reducible refine R.aug_ (x := ?x) ?h ?q); case h => rfl)
  | with_reducible apply R.ipI_
  | with_reducible apply R.rng2
  | ((with_reducible refine R.rngE2 ?h ?q); (case h => (refine ⟨?_, ?_, ?_, ?_⟩ <;> omega)))
  | with_reducible apply R.brk
  | with_reducible apply R.intB
  | with_reducible apply R.meth_
  | ((refine KN.methS (rs := ?rs) (ms := ?ms) ?h (fun _ _ _ _ => rfl) ?q); case h => walk_at "sys")
  | with_reducible apply R.sl_
  | with_reducible apply R.np_
  | with_reducible apply R.pt_
  | with_reducible apply R.ptE
  | with_reducible apply R.dget_
  | with_reducible apply R.revL_
  | ((refine R.dgetS (kvs := ?kvs) (v := ?v) ?h ?e ?q); (case h => walk_at "at"); (case e => walk_at "dk"))
  | with_reducible apply R.sfld
  | with_reducible apply R.fld_
  | with_reducible apply R.dc
  | with_reducible apply R.dget1_
  | with_reducible apply R.itseq
  | with_reducible apply R.itenum
  | with_reducible apply R.itT
  | with_reducible apply R.itF
  | with_reducible apply R.itNT
  | with_reducible apply R.itNF
  | (with_reducible apply R.tup)
  | (with_reducible apply R.lst))
local macro_rules | `(tactic| walk_at "rd") => `(tactic| (repeat (first | walk_at "r1" | (dsimp only [Int.reduceToNat, List.set_cons_succ, List.set_cons_zero, List.length_cons, List.length_nil, List.nil_append, List.cons_append, List.append_nil]))))
local macro_rules | `(tactic| walk_at "go") => `(tactic| (rw [R.start_eq]; dsimp only [R.startE, List.map_nil]; walk_at "rd"))
namespace KN
open PySem L2 SX C8 R
def top (i : Nat) : Stmt := PySem.Challenge.pw_sayonce_k31_common_systems.main.body.getD i (.Pass ⟨0, 0, 0, 0⟩)
/-- no built-in that the program calls is the module's own -/
structure Zs (mg : Str → Option Value) : Prop where
  int : mg "int" = none
  len : mg "len" = none
  range : mg "range" = none
  isinstance : mg "isinstance" = none
  bool : mg "bool" = none
  str : mg "str" = none
  tuple : mg "tuple" = none
  list : mg "list" = none
  all : mg "all" = none
  max : mg "max" = none
  min : mg "min" = none
  enumerate : mg "enumerate" = none
  any : mg "any" = none
  sum : mg "sum" = none
  divmod : mg "divmod" = none
structure PoolAt (H : Hp) (p l : Addr) : Prop where
  ex : ∃ (cs : List Int) (i d s : Int), H p = some (.lst [.ref l, .int i, .int d, .int s]) ∧ H l = some (.lst (cs.map V.int)) ∧ (∀ c ∈ cs, 0 ≤ c) ∧ 0 ≤ i ∧ 0 ≤ d ∧ 0 ≤ s ∧ s < 2147483647
  ne : l ≠ p
def spPool (K : PySem.W.Frag) : Sp := fun vs H Q _ => ∃ (a : Addr) (ns : List Int), vs = [.ref a] ∧ SqL K H a (ns.map V.int) ∧ ns.length ≤ 63 ∧
  ∀ H' p l, Same H H' → H p = none → H l = none → PoolAt H' p l → Q (.ref p) H'
def spTake : Sp := fun vs H Q _ => ∃ (p l : Addr) (m : Int), vs = [.ref p, .int m] ∧ PoolAt H p l ∧ 1 ≤ m ∧ m ≤ 100000000 ∧
  ∀ H' d, SameBut p H H' → PoolAt H' p l → 0 ≤ d → d < m → Q (.int d) H'
section
variable {P : Program} {w : World} {K : PySem.W.Frag} {mg : Str → Option Value} {base : Heap}
abbrev sPool : Stmt := top 32
theorem scPool : FnScope ["script", "cell"] ["script"] (fnScope sPool) := ⟨rfl, rfl, rfl, by decide +kernel, rfl, by decide +kernel, by decide +kernel⟩
abbrev sTake : Stmt := top 33
theorem scTake : FnScope ["pool", "many", "digit", "cell", "mixed"] ["pool", "many"] (fnScope sTake) := ⟨rfl, rfl, rfl, by decide +kernel, rfl, by decide +kernel, by decide +kernel⟩
theorem atI_mid {xs : List V} {i : Int} {v : V} (h0 : 0 ≤ i) (h : xs[i.toNat]? = some v) : atI xs i = some v := at_of (by omega) h
theorem fmod_lt {a m : Int} (h : 0 < m) : 0 ≤ a.fmod m ∧ a.fmod m < m := ⟨Int.fmod_nonneg_of_pos a h, Int.fmod_lt_of_pos a h⟩
theorem fdiv_nn {a m : Int} (h0 : 0 ≤ a) (h : 0 < m) : 0 ≤ a.fdiv m := by
  rw [Int.fdiv_eq_ediv_of_nonneg _ (by omega)]; exact Int.ediv_nonneg h0 (by omega)
theorem fdiv_pos {a m : Int} (h0 : m ≤ a) (h : 0 < m) : 0 < a.fdiv m := by
  rw [Int.fdiv_eq_ediv_of_nonneg _ (by omega)]
  have := (Int.le_ediv_iff_mul_le h).mpr (show 1 * m ≤ a by omega)
  omega
/-- the digit of a pool that has one -/
def spTake0 : Sp := fun vs H Q _ => ∃ (p l : Addr) (m i d s : Int), vs = [.ref p, .int m] ∧ H p = some (.lst [.ref l, .int i, .int d, .int s]) ∧ 0 < d ∧ 1 ≤ m ∧ m ≤ 100000000 ∧
  Q (.int (d.fmod m)) (upd H p (.lst [.ref l, .int i, .int (d.fdiv m), .int s]))
theorem c_pool (Z : Zs mg) {f : Addr} {fd : FuncData} (F : Def K mg "_law_pool" sPool f fd) (b : Binds K fd ["script"] []) : Cal P w K mg base 1 "_law_pool" (spPool K) [] := by
  refine cal0 F b .nil scPool (fun vs H Q E h => ?_) (fun cdv A outer s H vs Q E hr h => ?_)
  · obtain ⟨a, ns, rfl, _⟩ := h
    rfl
  · obtain ⟨a, ns, rfl, hS, hlen, k⟩ := h
    refine ⟨_, pss_one (ps_ret (pe_lst (pa_cons (pe_lc (own := [("cell", 1)]) (g := gName 1) (tt := tYes) rfl scPool.nd (kiL K (pv 0)) (blkOk_by (own := [("cell", 1)]) (N := ["script", "cell"]) (sc := fnScope sPool) (by decide +kernel)) (fun _ _ _ _ _ => (pg_name (i := 1) scPool.nd rfl (Or.inl rfl))) (fun _ _ _ _ _ => pts_nil) (fun _ _ _ _ _ => pe_ifExp (pt_cmpR op_ge (pv 1) pe_int (nomark _)) (pe_op op_mul pe_int (pv 1)) (pe_op op_sub (pe_op op_mul (pe_un un_neg pe_int) (pv 1)) pe_int))) (pa_cons pe_int (pa_cons pe_int (pa_cons pe_int pa_nil)))))), ?_⟩
    walk_at "go"
    refine ⟨a, rfl, ⟨_, hS⟩, fun D hD => lc_list (K := K) (a := a) (xs := ns.map V.int) (fun i H' => Same H H' ∧ ∃ cs : List Int, cs.length = i ∧ H' D = some (.lst (cs.map V.int)) ∧ ∀ c ∈ cs, 0 ≤ c)
      ⟨same_new (Same.refl H) hD, [], rfl, upd_same, fun c h => nomatch h⟩ (fun i H' _ hP => hP.1.seq hS) ?_ ?_⟩
    · rintro i x H' hi ⟨s0, cs, hc, hDc, hpos⟩
      obtain ⟨u, rfl⟩ : ∃ u, x = V.int u := by
        rw [List.getElem?_map] at hi
        cases e : ns[i]? with
        | none => rw [e] at hi; cases hi
        | some u => rw [e] at hi; exact ⟨u, (Option.some.inj hi).symm⟩
      have hi63 : i < ns.length := by
        have q := (List.getElem?_eq_some_iff.mp hi).1
        rwa [List.length_map] at q
      have fin : ∀ c : Int, 0 ≤ c → ∃ acc, H' D = some (.lst acc) ∧ acc.length < sizeLine ∧ Same H (upd H' D (.lst (acc ++ [V.int c]))) ∧ ∃ cs : List Int, cs.length = i + 1 ∧ upd H' D (.lst (acc ++ [V.int c])) D = some (.lst (cs.map V.int)) ∧ ∀ c ∈ cs, 0 ≤ c := by
        intro c h0
        refine ⟨_, hDc, small1000 (by rw [List.length_map]; omega), same_put s0 hD, cs ++ [c], by simp [hc], by rw [upd_same, List.map_append]; rfl, fun e he => ?_⟩
        rcases List.mem_append.mp he with q | q
        · exact hpos e q
        · rw [List.mem_singleton.mp q]; exact h0
      refine R.gname ⟨rfl, ?_⟩
      walk_at "rd"
      refine it (fun h1 => ?_) (fun h1 => ?_)
      · walk_at "rd"
        exact fin _ (by omega)
      · walk_at "rd"
        exact fin _ (by omega)
    · rintro H' ⟨s0, cs, hc, hDc, hpos⟩
      walk_at "rd"
      refine ⟨by decide, fun p hp => ?_⟩
      have dp : D ≠ p := ne_of_none hDc hp
      exact k _ p D (same_new s0 hp) (s0.free hp) hD ⟨⟨cs, 0, 0, 17, upd_same, by rw [upd_ne dp]; exact hDc, hpos, by decide, by decide, by decide, by decide⟩, dp⟩
theorem c_take0 (Z : Zs mg) {f : Addr} {fd : FuncData} (F : Def K mg "_law_take" sTake f fd) (b : Binds K fd ["pool", "many"] []) : Cal P w K mg base 1 "_law_take" spTake0 [] := by
  refine cal0 F b .nil scTake (fun vs H Q E h => ?_) (fun cdv A outer s H vs Q E hr h => ?_)
  · obtain ⟨p, l, m, i, d, s, rfl, _⟩ := h
    rfl
  · obtain ⟨p, l, m, i, d, s, rfl, hp, hd, hm, hm2, k⟩ := h
    refine ⟨_, pss_cons (ps_if (pt_cmpR op_gt (pe_ix (kIxL K) (pv 0) pe_int (fun _ _ => rfl)) pe_int (nomark _))
        (pss_cons (ps_set (i := 2) scTake.nd rfl (Or.inl rfl) (pe_op op_modN (pe_callTy cInt (by rfl) Z.int (by decide +kernel) (pa_cons (pe_ix (kIxL K) (pv 0) pe_int (fun _ _ => rfl)) pa_nil)) (pv 1)))
      (pss_cons (ps_asg (pe_op op_fdivN (pe_ix (kIxL K) (pv 0) pe_int (fun _ _ => rfl)) (pv 1)) (pg_sub (pv 0) pe_int set_list))
      (pss_one (ps_ret (pv 2)))))
        (pss_nil))
      (pss_cons (ps_never)
      (pss_cons (ps_never)
      (pss_cons (ps_never)
      (pss_cons (ps_never)
      (pss_cons (ps_never)
      (pss_cons (ps_never)
      (pss_one (ps_never)))))))), ?_⟩
    walk_at "go"
    refine itY hd ?_
    walk_at "rd"
    exact k
theorem c_take (Z : Zs mg) {f : Addr} {fd : FuncData} (F : Def K mg "_law_take" sTake f fd) (b : Binds K fd ["pool", "many"] []) : Cal P w K mg base 2 "_law_take" spTake [] := by
  have c_take : Cal P w K mg base 1 "_law_take" spTake0 [] := c_take0 Z F b
  refine cal0 F b .nil scTake (fun vs H Q E h => ?_) (fun cdv A outer s H vs Q E hr h => ?_)
  · obtain ⟨p, l, m, rfl, _⟩ := h
    rfl
  · obtain ⟨p, l, m, rfl, ⟨⟨cs, i, d, s, hp, hl, hcs, hi, hd, hs, hs2⟩, hne⟩, hm, hm2, k⟩ := h
    refine ⟨_, pss_cons (ps_if (pt_cmpR op_gt (pe_ix (kIxL K) (pv 0) pe_int (fun _ _ => rfl)) pe_int (nomark _))
        (pss_cons (ps_set (i := 2) scTake.nd rfl (Or.inl rfl) (pe_op op_modN (pe_callTy cInt (by rfl) Z.int (by decide +kernel) (pa_cons (pe_ix (kIxL K) (pv 0) pe_int (fun _ _ => rfl)) pa_nil)) (pv 1)))
      (pss_cons (ps_asg (pe_op op_fdivN (pe_ix (kIxL K) (pv 0) pe_int (fun _ _ => rfl)) (pv 1)) (pg_sub (pv 0) pe_int set_list))
      (pss_one (ps_ret (pv 2)))))
        (pss_nil))
      (pss_cons (ps_set (i := 3) scTake.nd rfl (Or.inl rfl) pe_int)
      (pss_cut (ps_if (pt_cmpR op_lt (pe_ix (kIxL K) (pv 0) pe_int (fun _ _ => rfl)) (pe_callB (kLen K) (by rfl) Z.len PySem.boot_len (pa_cons (pe_ix (kIxL K) (pv 0) pe_int (fun _ _ => rfl)) pa_nil)) (nomark _))
        (pss_one (ps_set (i := 3) scTake.nd rfl (Or.inl rfl) (pe_ix (kIxL K) (pe_ix (kIxL K) (pv 0) pe_int (fun _ _ => rfl)) (pe_ix (kIxL K) (pv 0) pe_int (fun _ _ => rfl)) (fun _ _ => rfl))))
        (pss_nil))
      (pss_cons (ps_asg (pe_op op_add (pe_ix (kIxL K) (pv 0) pe_int (fun _ _ => rfl)) pe_int) (pg_sub (pv 0) pe_int set_list))
      (pss_cons (ps_if (pt_cmpR op_ge (pv 3) (pe_op op_pow pe_int pe_int) (nomark _))
        (pss_cons (ps_asg (pe_op op_fdivN (pv 3) pe_int) (pg_sub (pv 0) pe_int set_list))
      (pss_one (ps_ret (pe_c c_take hr (by omega) (by rfl) (pa_cons (pv 0) (pa_cons (pv 1) pa_nil))))))
        (pss_nil))
      (pss_cons (ps_asg (pe_op op_modN (pe_callTy cInt (by rfl) Z.int (by decide +kernel) (pa_cons (pe_op op_add (pe_op op_add (pe_op op_mul (pe_ix (kIxL K) (pv 0) pe_int (fun _ _ => rfl)) pe_int) (pe_op op_mul (pv 3) pe_int)) (pe_op op_mul (pe_ix (kIxL K) (pv 0) pe_int (fun _ _ => rfl)) pe_int)) pa_nil)) pe_int) (pg_sub (pv 0) pe_int set_list))
      (pss_cons (ps_set (i := 4) scTake.nd rfl (Or.inl rfl) (pe_op op_modN (pe_callTy cInt (by rfl) Z.int (by decide +kernel) (pa_cons (pe_op op_add (pe_op op_add (pe_op op_mul (pe_ix (kIxL K) (pv 0) pe_int (fun _ _ => rfl)) (pe_ix (kIxL K) (pv 0) pe_int (fun _ _ => rfl))) (pe_op op_mul (pe_ix (kIxL K) (pv 0) pe_int (fun _ _ => rfl)) pe_int)) pe_int) pa_nil)) pe_int))
      (pss_one (ps_ret (pe_op op_modN (pe_callTy cInt (by rfl) Z.int (by decide +kernel) (pa_cons (pe_op op_fdivN (pv 4) pe_int) pa_nil)) (pv 1)))))))))), ?_⟩
    walk_at "go"
    refine it (fun h1 => ?_) (fun h1 => ?_)
    · walk_at "rd"
      have z := fmod_lt (a := d) (m := m) (by omega)
      exact k _ _ (SameBut.refl.put) ⟨⟨cs, i, _, s, upd_same, by rw [upd_ne hne]; exact hl, hcs, hi, fdiv_nn hd (by omega), hs, hs2⟩, hne⟩ z.1 z.2
    · walk_at "rd"
      refine ⟨fun σ' H' => H' = H ∧ ∃ c : Int, 0 ≤ c ∧ σ' = [some (.ref p), some (.int m), none, some (.int c), none], ?_, ?_⟩
      · walk_at "rd"
        refine it (fun h2 => ?_) (fun h2 => ?_)
        · rw [List.length_map] at h2
          have hlt : i.toNat < cs.length := by omega
          have e : atI (cs.map V.int) i = some (.int cs[i.toNat]) := atI_mid hi (by rw [List.getElem?_map, List.getElem?_eq_getElem hlt]; rfl)
          walk_at "rd"
          exact ⟨rfl, _, hcs _ (List.getElem_mem hlt), rfl⟩
        · walk_at "rd"
          exact ⟨rfl, 0, by decide, rfl⟩
      · rintro σ' H' ⟨rfl, c, hc, rfl⟩
        walk_at "rd"
        refine it (fun h3 => ?_) (fun h3 => ?_)
        · have e18 : (10 : Int) ^ 18 = 1000000000000000000 := by decide
          rw [e18] at h3
          walk_at "rd"
          have hd2 : 0 < c.fdiv 2 := fdiv_pos (by omega) (by omega)
          have z := fmod_lt (a := c.fdiv 2) (m := m) (by omega)
          exact ⟨p, l, m, _, _, _, rfl, upd_same, hd2, hm, hm2, k _ _ SameBut.refl.put.put.put ⟨⟨cs, i + 1, _, s, upd_same, by rw [upd_ne hne, upd_ne hne, upd_ne hne]; exact hl, hcs, by omega, fdiv_nn (by omega) (by omega), hs, hs2⟩, hne⟩ z.1 z.2⟩
        · walk_at "rd"
          have z := fmod_lt (a := s * 48271 + c * 69621 + (i + 1) * 613) (m := 2147483647) (by decide)
          generalize (s * 48271 + c * 69621 + (i + 1) * 613).fmod 2147483647 = g at z ⊢
          walk_at "rd"
          have z2 := fmod_lt (a := ((g * g + g * 7919 + 104729).fmod 1000000007).fdiv 3) (m := m) (by omega)
          exact k _ _ SameBut.refl.put.put ⟨⟨cs, i + 1, d, g, upd_same, by rw [upd_ne hne, upd_ne hne]; exact hl, hcs, by omega, hd, z.1, z.2⟩, hne⟩ z2.1 z2.2
end
end KN
end
section
set_option Elab.async false
set_option linter.all false
set_option maxRecDepth 100000
set_option maxHeartbeats 4000000
set_option pp.maxSteps 1500
set_option pp.deepTerms false
local macro_rules | `(tactic| walk_at "ne") => `(tactic| first
  | assumption | (apply Ne.symm; assumption)
  | exact R.ne_new (by assumption) | exact (R.ne_new (by assumption)).symm
  | exact L2.ne_of_none (by assumption) (by assumption) | exact (L2.ne_of_none (by assumption) (by assumption)).symm
  | exact L2.ne_of_none (by assumption) (R.free_new (by assumption)) | exact (L2.ne_of_none (by assumption) (R.free_new (by assumption))).symm)
local macro_rules | `(tactic| walk_at "at") => `(tactic| first
  | assumption | exact L2.upd_same
  | (refine R.sb (H := ?H) (p := ?p) ?e ?n ?h; (case e => assumption); (case n => walk_at "ne"); (case h => walk_at "at"))
  | (refine R.sm (H := ?H) ?e ?h; (case e => assumption); (case h => walk_at "at"))
  | (refine Eq.trans (L2.upd_ne ?_) ?_ <;> first | walk_at "ne" | walk_at "at"))
local macro_rules | `(tactic| walk_at "sqt") => `(tactic| first | assumption | (refine L2.SqT.of ?_; walk_at "at"))
local macro_rules | `(tactic| walk_at "ty") => `(tactic| first | exact R.tyN | exact R.tyB | exact R.tyI | exact R.tyS | (refine R.tyT (xs := ?xs) ?h; case h => walk_at "at") | (refine R.tyL (xs := ?xs) ?h; case h => walk_at "at"))
local macro_rules | `(tactic| walk_at "kit") => `(tactic| first | exact R.kit_NoneType_tuple | exact R.kit_NoneType_list | exact R.kit_NoneType_bool | exact R.kit_NoneType_str | exact R.kit_NoneType_int | exact R.kit_bool_tuple | exact R.kit_bool_list | exact R.kit_bool_bool | exact R.kit_bool_str | exact R.kit_bool_int | exact R.kit_int_tuple | exact R.kit_int_list | exact R.kit_int_bool | exact R.kit_int_str | exact R.kit_int_int | exact R.kit_str_tuple | exact R.kit_str_list | exact R.kit_str_bool | exact R.kit_str_str | exact R.kit_str_int | exact R.kit_tuple_tuple | exact R.kit_tuple_list | exact R.kit_tuple_bool | exact R.kit_tuple_str | exact R.kit_tuple_int | exact R.kit_list_tuple | exact R.kit_list_list | exact R.kit_list_bool | exact R.kit_list_str | exact R.kit_list_int)
local macro_rules | `(tactic| walk_at "sz") => `(tactic| first | assumption | (refine Nat.le_trans ?_ (show 1000 ≤ PySem.sizeLine by decide); omega) | decide)
local macro_rules | `(tactic| walk_at "szl") => `(tactic| first | assumption | exact Nat.le_of_lt (L2.small1000 (by omega)) | decide | decide +kernel)
local macro_rules | `(tactic| walk_at "sys") => `(tactic| first | assumption | exact KN.SysAt.same (by assumption) (by assumption))
local macro_rules | `(tactic| walk_at "dk") => `(tactic| first | exact R.rowsS _ _ | exact R.rowsM _ _)
local macro_rules | `(tactic| walk_at "sqa") => `(tactic| first | assumption | exact R.SeqA.same (by assumption) (by assumption) | exact R.SeqA.new (by assumption) (by assumption) | (exact Or.inl (by walk_at "at")) | (exact Or.inr (by walk_at "at")))
local macro_rules | `(tactic| walk_at "ix") => `(tactic| first | rfl | (exact L2.atI_nat (by assumption)) | assumption)
local macro_rules | `(tactic| walk_at "cond") => `(tactic| first
  | exact Or.inl (by decide) | exact Or.inr (by decide) | exact Or.inl ⟨by omega, by omega⟩ | exact Or.inr ⟨by omega, by omega⟩
  | (constructor <;> omega) | (show _ ≠ _; omega) | decide | omega)
local macro_rules | `(tactic| walk_at "r1") => `(tactic| first
  | ((with_reducible refine R.var (v := ?v) ?h ?q); case h => rfl)
  | with_reducible apply R.cons
  | with_reducible apply R.c
  | with_reducible apply R.nil
  | with_reducible apply R.op
  | with_reducible apply R.gname
  | with_reducible apply R.seq
  | with_reducible apply R.call
  | with_reducible apply R.asg
  | with_reducible apply R.ex
  | with_reducible apply R.tst
  | with_reducible apply R.i0
  | with_reducible apply R.ifs
  | with_reducible apply R.ret
  | with_reducible apply R.retN
  | with_reducible apply R.drop
  | with_reducible apply R.next
  | with_reducible apply R.tb_
  | with_reducible apply R.eqI
  | with_reducible apply R.neI
  | ((with_reducible refine R.ic ?_ ?_); · walk_at "cond")
  | with_reducible apply R.u0
  | with_reducible apply R.un
  | ((with_reducible refine R.eq ?_ ?_); · rfl)
  | ((with_reducible refine R.ne ?_ ?_); · rfl)
  | with_reducible apply R.and_
  | with_reducible apply R.or_
  | with_reducible apply R.not_
  | with_reducible apply R.ife
  | with_reducible apply R.chain
  | with_reducible apply R.cb
  | with_reducible apply R.bm
  | with_reducible apply R.gsub
  | with_reducible apply R.gnil
  | with_reducible apply R.gcons
  | with_reducible apply R.yes
  | with_reducible apply R.int1
  | ((with_reducible refine R.lenL (xs := ?xs) ?h ?q); case h => walk_at "at")
  | ((with_reducible refine R.ixL (xs := ?xs) (v := ?v) ?h ?e ?q); (case h => walk_at "at"); (case e => walk_at "ix"))
  | ((with_reducible refine R.setL (xs := ?xs) (n := ?n) ?h ?e ?q); (case h => walk_at "at"); (case e => rfl))
  | ((with_reducible refine R.append (xs := ?xs) ?h ?e ?q); (case h => walk_at "at"); (case e => walk_at "cond"))
  | with_reducible apply R.is_
  | with_reducible apply R.isnot
  | with_reducible apply R.andV
  | with_reducible apply R.orV
  | with_reducible apply R.notV
  | ((with_reducible refine R.isi (s := ?s) (b := ?b) ?ty ?h ?q); (case ty => walk_at "ty"); (case h => walk_at "kit"))
  | ((with_reducible refine R.addS ?h ?q); (case h => walk_at "sz"))
  | with_reducible apply R.max2
  | with_reducible apply R.min2
  | ((with_reducible refine R.lenStr ?h ?q); (case h => walk_at "szl"))
  | ((with_reducible refine R.ixS (n := ?n) ?h ?e ?q); (case h => walk_at "szl"); (case e => walk_at "ix"))
  | ((with_reducible refine R.tyl (xs := ?xs) ?h ?q); (case h => walk_at "at"))
  | with_reducible apply R.itlist
  | with_reducible apply R.ittup
  | with_reducible apply R.m1
  | with_reducible apply R.m1s
  | with_reducible apply R.leS
  | with_reducible apply R.itstr
  | with_reducible apply R.itstrE
  | with_reducible apply R.lc
  | with_reducible apply R.lc2
  | with_reducible apply R.ckw
  | with_reducible apply R.par
  | with_reducible apply R.parE
  | with_reducible apply R.itrev
  | with_reducible apply R.dsetd
  | with_reducible apply R.dnotin_
  | with_reducible apply R.for_
  | ((with_reducible refine R.all_ (bs := ?bs) ?h ?q); (case h => walk_at "at"))
  | with_reducible apply R.rng1
  | ((with_reducible refine R.rngE ?h ?q); (case h => (constructor <;> omega)))
  | ((with_reducible refine R.lenT (xs := ?xs) ?h ?q); (case h => walk_at "sqt"))
  | ((with_reducible refine R.ixT (xs := ?xs) (v := ?v) ?h ?e ?q); (case h => walk_at "sqt"); (case e => walk_at "ix"))
  | ((refine R.itlE (xs := ?xs) ?h ?q); (case h => walk_at "at"))
  | ((refine R.ittE (xs := ?xs) ?h ?q); (case h => walk_at "at"))
  | ((refine R.gseq (xs := ?xs) ?h ?e ?q); (case h => walk_at "sqa"); (case e => rfl))
  | ((refine R.ixA (xs := ?xs) (v := ?v) ?h ?e ?q); (case h => walk_at "sqa"); (case e => walk_at "ix"))
  | ((refine R.lenA (xs := ?xs) ?h ?q); (case h => walk_at "sqa"))
  | ((with_reducible refine R.gtup (xs := ?xs) ?h ?e ?q); (case h => walk_at "sqt"); (case e => rfl))
  | with_reducible apply R.din_
  | with_reducible apply R.dput_
  | with_reducible apply R.dget2_
  | ((with_reducible refine R.aug_ (x := ?x) ?h ?q); case h => rfl)
  | with_reducible apply R.ipI_
  | with_reducible apply R.rng2
  | ((with_reducible refine R.rngE2 ?h ?q); (case h => (refine ⟨?_, ?_, ?_, ?_⟩ <;> omega)))
  | with_reducible apply R.brk
  | with_reducible apply R.intB
  | with_reducible apply R.meth_
  | ((refine KN.methS (rs := ?rs) (ms := ?ms) ?h (fun _ _ _ _ => rfl) ?q); case h => walk_at "sys")
  | with_reducible apply R.sl_
  | with_reducible apply R.np_
  | with_reducible apply R.pt_
  | with_reducible apply R.ptE
  | with_reducible apply R.dget_
  | with_reducible apply R.revL_
  | ((refine R.dgetS (kvs := ?kvs) (v := ?v) ?h ?e ?q); (case h => walk_at "at"); (case e => walk_at "dk"))
  | with_reducible apply R.sfld
  | with_reducible apply R.fld_
  | with_reducible apply R.dc
  | with_reducible apply R.dget1_
  | with_reducible apply R.itseq
  | with_reducible apply R.itenum
  | with_reducible apply R.itT
  | with_reducible apply R.itF
  | with_reducible apply R.itNT
  | with_reducible apply R.itNF
  | (with_reducible apply R.tup)
  | (with_reducible apply R.lst))
local macro_rules | `(tactic| walk_at "rd") => `(tactic| (repeat (first | walk_at "r1" | (dsimp only [Int.reduceToNat, List.set_cons_succ, List.set_cons_zero, List.length_cons, List.length_nil, List.nil_append, List.cons_append, List.append_nil]))))
local macro_rules | `(tactic| walk_at "go") => `(tactic| (rw [R.start_eq]; dsimp only [R.startE, List.map_nil]; walk_at "rd"))
namespace KN
open PySem L2 SX C8 R
section
variable {P : Program} {w : World} {K : PySem.W.Frag} {mg : Str → Option Value} {base : Heap}
abbrev sIsint : Stmt := top 34
theorem scIsint : FnScope ["actual"] ["actual"] (fnScope sIsint) := ⟨rfl, rfl, rfl, by decide +kernel, rfl, by decide +kernel, by decide +kernel⟩
abbrev sSame : Stmt := top 35
theorem scSame : FnScope ["actual", "due", "k"] ["actual", "due"] (fnScope sSame) := ⟨rfl, rfl, rfl, by decide +kernel, rfl, by decide +kernel, by decide +kernel⟩
/-- one value that is no object -/
inductive Scal : V → Prop
  | non : Scal .non
  | bl (b : Bool) : Scal (.bl b)
  | int (i : Int) : Scal (.int i)
  | str (w : Str) : Scal (.str w)
/-- equal data, of depth less than n -/
def Eqd (H : Hp) : Nat → V → V → Prop
  | 0, _, _ => False
  | n + 1, x, y => (x = y ∧ Scal x) ∨ (∃ a b xs ys, x = .ref a ∧ y = .ref b ∧ H a = some (.tup xs) ∧ H b = some (.tup ys) ∧ xs.length = ys.length ∧ xs.length ≤ 1000 ∧ ∀ (k : Nat) (u v : V), xs[k]? = some u → ys[k]? = some v → Eqd H n u v) ∨
      ∃ a b xs ys, x = .ref a ∧ y = .ref b ∧ H a = some (.lst xs) ∧ H b = some (.lst ys) ∧ xs.length = ys.length ∧ xs.length ≤ 1000 ∧ ∀ (k : Nat) (u v : V), xs[k]? = some u → ys[k]? = some v → Eqd H n u v
theorem Eqd.same {H H' : Hp} (s : Same H H') : ∀ n x y, Eqd H n x y → Eqd H' n x y
  | 0, _, _, h => (h : False).elim
  | n + 1, x, y, h => by
    rcases h with h | ⟨a, b, xs, ys, h1, h2, h3, h4, h5, h6, h7⟩ | ⟨a, b, xs, ys, h1, h2, h3, h4, h5, h6, h7⟩
    · exact .inl h
    · exact .inr (.inl ⟨a, b, xs, ys, h1, h2, s _ _ h3, s _ _ h4, h5, h6, fun k u v p q => Eqd.same s n _ _ (h7 k u v p q)⟩)
    · exact .inr (.inr ⟨a, b, xs, ys, h1, h2, s _ _ h3, s _ _ h4, h5, h6, fun k u v p q => Eqd.same s n _ _ (h7 k u v p q)⟩)
def spIsint : Sp := fun vs H Q _ => ∃ i : Int, vs = [.int i] ∧ Q (.bl true) H
def spSame (n : Nat) : Sp := fun vs H Q _ => ∃ x y, vs = [x, y] ∧ Eqd H n x y ∧ ∀ H', Same H H' → Q (.bl true) H'
theorem c_isint (Z : Zs mg) {f : Addr} {fd : FuncData} (F : Def K mg "_law_is_integer" sIsint f fd) (b : Binds K fd ["actual"] []) : Cal P w K mg base 1 "_law_is_integer" spIsint [] := by
  refine cal0 F b .nil scIsint (fun vs H Q E h => ?_) (fun cdv A outer s H vs Q E hr h => ?_)
  · obtain ⟨i, rfl, _⟩ := h
    rfl
  · obtain ⟨i, rfl, k⟩ := h
    refine ⟨_, pss_one (ps_ret (pe_and (pe_callB (kIsi K) (by rfl) Z.isinstance (by decide +kernel) (pa_cons (pv 0) (pa_cons (pe_bltn (v := .ty "int") (by rfl) Z.int (by decide +kernel) rfl) pa_nil))) (pe_one (pe_not (pe_callB (kIsi K) (by rfl) Z.isinstance (by decide +kernel) (pa_cons (pv 0) (pa_cons (pe_bltn (v := .ty "bool") (by rfl) Z.bool (by decide +kernel) rfl) pa_nil))))))), ?_⟩
    walk_at "go"
    exact k
theorem c_same (Z : Zs mg) (c_is_integer : Cal P w K mg base 1 "_law_is_integer" spIsint []) {f : Addr} {fd : FuncData} (F : Def K mg "_law_same" sSame f fd) (b : Binds K fd ["actual", "due"] []) : ∀ n, Cal P w K mg base (n + 2) "_law_same" (spSame n) []
  | 0 => by
    refine cal0 F b .nil scSame (fun vs H Q E h => ?_) (fun cdv A outer s H vs Q E hr h => ?_)
    · obtain ⟨x, y, _, h, _⟩ := h
      exact h.elim
    · obtain ⟨x, y, _, h, _⟩ := h
      exact h.elim
  | n + 1 => by
    have c_same := c_same Z c_is_integer F b n
    refine cal0 F b .nil scSame (fun vs H Q E h => ?_) (fun cdv A outer s H vs Q E hr h => ?_)
    · obtain ⟨x, y, rfl, _⟩ := h
      rfl
    · obtain ⟨x, y, rfl, h, k⟩ := h
      refine ⟨_, pss_cons (ps_if (pt_val (pe_callB (kIsi K) (by rfl) Z.isinstance (by decide +kernel) (pa_cons (pv 1) (pa_cons (pe_bltn (v := .ty "tuple") (by rfl) Z.tuple (by decide +kernel) rfl) pa_nil))))
        (pss_cons (ps_if (PW.pt (pw_or (pt_not (pt_val (pe_callB (kIsi K) (by rfl) Z.isinstance (by decide +kernel) (pa_cons (pv 0) (pa_cons (pe_bltn (v := .ty "tuple") (by rfl) Z.tuple (by decide +kernel) rfl) pa_nil))))) (pw_or1 (pt_cmpR op_ne (pe_callB (kLen K) (by rfl) Z.len PySem.boot_len (pa_cons (pv 0) pa_nil)) (pe_callB (kLen K) (by rfl) Z.len PySem.boot_len (pa_cons (pv 1) pa_nil)) (nomark _)))))
        (pss_one (ps_ret pe_bl))
        (pss_nil))
      (pss_one (ps_ret (pe_callB (kAll K) (by rfl) Z.all (by decide +kernel) (pa_cons (pe_lc (own := [("k", 2)]) (g := gName 2) (tt := tYes) rfl scSame.nd (pi_range1 (by rfl) Z.range (pa_cons (pe_callB (kLen K) (by rfl) Z.len PySem.boot_len (pa_cons (pv 1) pa_nil)) pa_nil)) (blkOk_by (own := [("k", 2)]) (N := ["actual", "due", "k"]) (sc := fnScope sSame) (by decide +kernel)) (fun _ _ _ _ _ => (pg_name (i := 2) scSame.nd rfl (Or.inl rfl))) (fun _ _ _ _ _ => pts_nil) (fun _ _ _ _ _ => pe_c c_same hr (by omega) (by rfl) (pa_cons (pe_ix (kIxT K) (pv 0) (pv 2) (fun _ _ => rfl)) (pa_cons (pe_ix (kIxT K) (pv 1) (pv 2) (fun _ _ => rfl)) pa_nil)))) pa_nil)))))
        (pss_nil))
      (pss_cons (ps_if (pt_val (pe_callB (kIsi K) (by rfl) Z.isinstance (by decide +kernel) (pa_cons (pv 1) (pa_cons (pe_bltn (v := .ty "list") (by rfl) Z.list (by decide +kernel) rfl) pa_nil))))
        (pss_cons (ps_if (PW.pt (pw_or (pt_not (pt_val (pe_callB (kIsi K) (by rfl) Z.isinstance (by decide +kernel) (pa_cons (pv 0) (pa_cons (pe_bltn (v := .ty "list") (by rfl) Z.list (by decide +kernel) rfl) pa_nil))))) (pw_or1 (pt_cmpR op_ne (pe_callB (kLen K) (by rfl) Z.len PySem.boot_len (pa_cons (pv 0) pa_nil)) (pe_callB (kLen K) (by rfl) Z.len PySem.boot_len (pa_cons (pv 1) pa_nil)) (nomark _)))))
        (pss_one (ps_ret pe_bl))
        (pss_nil))
      (pss_one (ps_ret (pe_callB (kAll K) (by rfl) Z.all (by decide +kernel) (pa_cons (pe_lc (own := [("k", 2)]) (g := gName 2) (tt := tYes) rfl scSame.nd (pi_range1 (by rfl) Z.range (pa_cons (pe_callB (kLen K) (by rfl) Z.len PySem.boot_len (pa_cons (pv 1) pa_nil)) pa_nil)) (blkOk_by (own := [("k", 2)]) (N := ["actual", "due", "k"]) (sc := fnScope sSame) (by decide +kernel)) (fun _ _ _ _ _ => (pg_name (i := 2) scSame.nd rfl (Or.inl rfl))) (fun _ _ _ _ _ => pts_nil) (fun _ _ _ _ _ => pe_c c_same hr (by omega) (by rfl) (pa_cons (pe_ix (kIxL K) (pv 0) (pv 2) (fun _ _ => rfl)) (pa_cons (pe_ix (kIxL K) (pv 1) (pv 2) (fun _ _ => rfl)) pa_nil)))) pa_nil)))))
        (pss_nil))
      (pss_cons (ps_if (pt_cmpR oIs (pv 1) pe_non (nomark _))
        (pss_one (ps_ret (pe_cmpR oIs (pv 0) pe_non (nomark _))))
        (pss_nil))
      (pss_cons (ps_if (pt_val (pe_callB (kIsi K) (by rfl) Z.isinstance (by decide +kernel) (pa_cons (pv 1) (pa_cons (pe_bltn (v := .ty "bool") (by rfl) Z.bool (by decide +kernel) rfl) pa_nil))))
        (pss_one (ps_ret (pe_and (pe_callB (kIsi K) (by rfl) Z.isinstance (by decide +kernel) (pa_cons (pv 0) (pa_cons (pe_bltn (v := .ty "bool") (by rfl) Z.bool (by decide +kernel) rfl) pa_nil))) (pe_one (pe_cmpR op_eq (pv 0) (pv 1) (nomark _))))))
        (pss_nil))
      (pss_cons (ps_if (pt_val (pe_callB (kIsi K) (by rfl) Z.isinstance (by decide +kernel) (pa_cons (pv 1) (pa_cons (pe_bltn (v := .ty "str") (by rfl) Z.str (by decide +kernel) rfl) pa_nil))))
        (pss_one (ps_ret (pe_and (pe_callB (kIsi K) (by rfl) Z.isinstance (by decide +kernel) (pa_cons (pv 0) (pa_cons (pe_bltn (v := .ty "str") (by rfl) Z.str (by decide +kernel) rfl) pa_nil))) (pe_one (pe_cmpR op_eq (pv 0) (pv 1) (nomark _))))))
        (pss_nil))
      (pss_one (ps_ret (pe_and (pe_c c_is_integer hr (by omega) (by rfl) (pa_cons (pv 0) pa_nil)) (pe_one (pe_cmpR op_eq (pv 0) (pv 1) (nomark _)))))))))), ?_⟩
      rcases h with ⟨rfl, h⟩ | ⟨a, b, xs, ys, rfl, rfl, ha, hb, hl, hz, he⟩ | ⟨a, b, xs, ys, rfl, rfl, ha, hb, hl, hz, he⟩
      · cases h with
        | non =>
          walk_at "go"
          refine itY rfl ?_
          walk_at "rd"
          exact dT rfl (k _ (Same.refl H))
        | bl v =>
          walk_at "go"
          refine itN (fun z => nomatch z) ?_
          walk_at "rd"
          exact dT rfl (k _ (Same.refl H))
        | int v =>
          walk_at "go"
          refine itN (fun z => nomatch z) ?_
          walk_at "rd"
          refine ⟨v, rfl, ?_⟩
          walk_at "rd"
          exact dT rfl (k _ (Same.refl H))
        | str v =>
          walk_at "go"
          refine itN (fun z => nomatch z) ?_
          walk_at "rd"
          exact dT rfl (k _ (Same.refl H))
      · walk_at "go"
        refine itn (fun z => absurd (by rw [hl]) z) (fun _ => ?_)
        walk_at "rd"
        intro D hD
        refine lc_range (lo := 0) (n := (ys.length : Int).toNat) (fun i H' => Same H H' ∧ H' D = some (.lst ((List.replicate i true).map V.bl))) ⟨same_new (Same.refl H) hD, upd_same⟩ ?_ ?_
        · rintro i H' hi ⟨s0, hDc⟩
          have hy : i < ys.length := by omega
          have hx : i < xs.length := by omega
          have ha' := s0 _ _ ha
          have hb' := s0 _ _ hb
          have ex : xs[i]? = some xs[i] := List.getElem?_eq_getElem hx
          have ey : ys[i]? = some ys[i] := List.getElem?_eq_getElem hy
          refine R.gname ⟨rfl, ?_⟩
          rw [Int.zero_add]
          walk_at "rd"
          refine ⟨_, _, rfl, Eqd.same s0 _ _ _ (he i _ _ ex ey), fun H2 s2 => ⟨_, s2 _ _ hDc, small1000 (by rw [List.length_map, List.length_replicate]; omega), same_put (s0.trans s2) hD, ?_⟩⟩
          rw [upd_same, List.replicate_succ', List.map_append]
          rfl
        · rintro H' ⟨s0, hDc⟩
          walk_at "rd"
          rw [all_rep]
          exact k _ s0
      · walk_at "go"
        refine itn (fun z => absurd (by rw [hl]) z) (fun _ => ?_)
        walk_at "rd"
        intro D hD
        refine lc_range (lo := 0) (n := (ys.length : Int).toNat) (fun i H' => Same H H' ∧ H' D = some (.lst ((List.replicate i true).map V.bl))) ⟨same_new (Same.refl H) hD, upd_same⟩ ?_ ?_
        · rintro i H' hi ⟨s0, hDc⟩
          have hy : i < ys.length := by omega
          have hx : i < xs.length := by omega
          have ha' := s0 _ _ ha
          have hb' := s0 _ _ hb
          have ex : xs[i]? = some xs[i] := List.getElem?_eq_getElem hx
          have ey : ys[i]? = some ys[i] := List.getElem?_eq_getElem hy
          refine R.gname ⟨rfl, ?_⟩
          rw [Int.zero_add]
          walk_at "rd"
          refine ⟨_, _, rfl, Eqd.same s0 _ _ _ (he i _ _ ex ey), fun H2 s2 => ⟨_, s2 _ _ hDc, small1000 (by rw [List.length_map, List.length_replicate]; omega), same_put (s0.trans s2) hD, ?_⟩⟩
          rw [upd_same, List.replicate_succ', List.map_append]
          rfl
        · rintro H' ⟨s0, hDc⟩
          walk_at "rd"
          rw [all_rep]
          exact k _ s0
end
end KN
end
section
set_option Elab.async false
set_option linter.all false
set_option maxRecDepth 100000
set_option maxHeartbeats 4000000
set_option pp.maxSteps 1500
set_option pp.deepTerms false
local macro_rules | `(tactic| walk_at "ne") => `(tactic| first
  | assumption | (apply Ne.symm; assumption)
  | exact R.ne_new (by assumption) | exact (R.ne_new (by assumption)).symm
  | exact L2.ne_of_none (by assumption) (by assumption) | exact (L2.ne_of_none (by assumption) (by assumption)).symm
  | exact L2.ne_of_none (by assumption) (R.free_new (by assumption)) | exact (L2.ne_of_none (by assumption) (R.free_new (by assumption))).symm)
local macro_rules | `(tactic| walk_at "at") => `(tactic| first
  | assumption | exact L2.upd_same
  | (refine R.sb (H := ?H) (p := ?p) ?e ?n ?h; (case e => assumption); (case n => walk_at "ne"); (case h => walk_at "at"))
  | (refine R.sm (H := ?H) ?e ?h; (case e => assumption); (case h => walk_at "at"))
  | (refine Eq.trans (L2.upd_ne ?_) ?_ <;> first | walk_at "ne" | walk_at "at"))
local macro_rules | `(tactic| walk_at "sqt") => `(tactic| first | assumption | (refine L2.SqT.of ?_; walk_at "at"))
local macro_rules | `(tactic| walk_at "ty") => `(tactic| first | exact R.tyN | exact R.tyB | exact R.tyI | exact R.tyS | (refine R.tyT (xs := ?xs) ?h; case h => walk_at "at") | (refine R.tyL (xs := ?xs) ?h; case h => walk_at "at"))
local macro_rules | `(tactic| walk_at "kit") => `(tactic| first | exact R.kit_NoneType_tuple | exact R.kit_NoneType_list | exact R.kit_NoneType_bool | exact R.kit_NoneType_str | exact R.kit_NoneType_int | exact R.kit_bool_tuple | exact R.kit_bool_list | exact R.kit_bool_bool | exact R.kit_bool_str | exact R.kit_bool_int | exact R.kit_int_tuple | exact R.kit_int_list | exact R.kit_int_bool | exact R.kit_int_str | exact R.kit_int_int | exact R.kit_str_tuple | exact R.kit_str_list | exact R.kit_str_bool | exact R.kit_str_str | exact R.kit_str_int | exact R.kit_tuple_tuple | exact R.kit_tuple_list | exact R.kit_tuple_bool | exact R.kit_tuple_str | exact R.kit_tuple_int | exact R.kit_list_tuple | exact R.kit_list_list | exact R.kit_list_bool | exact R.kit_list_str | exact R.kit_list_int)
local macro_rules | `(tactic| walk_at "sz") => `(tactic| first | assumption | (refine Nat.le_trans ?_ (show 1000 ≤ PySem.sizeLine by decide); omega) | decide)
local macro_rules | `(tactic| walk_at "szl") => `(tactic| first | assumption | exact Nat.le_of_lt (L2.small1000 (by omega)) | decide | decide +kernel)
local macro_rules | `(tactic| walk_at "sys") => `(tactic| first | assumption | exact KN.SysAt.same (by assumption) (by assumption))
local macro_rules | `(tactic| walk_at "dk") => `(tactic| first | exact R.rowsS _ _ | exact R.rowsM _ _)
local macro_rules | `(tactic| walk_at "sqa") => `(tactic| first | assumption | exact R.SeqA.same (by assumption) (by assumption) | exact R.SeqA.new (by assumption) (by assumption) | (exact Or.inl (by walk_at "at")) | (exact Or.inr (by walk_at "at")))
local macro_rules | `(tactic| walk_at "ix") => `(tactic| first | rfl | (exact L2.atI_nat (by assumption)) | assumption)
local macro_rules | `(tactic| walk_at "cond") => `(tactic| first
  | exact Or.inl (by decide) | exact Or.inr (by decide) | exact Or.inl ⟨by omega, by omega⟩ | exact Or.inr ⟨by omega, by omega⟩
  | (constructor <;> omega) | (show _ ≠ _; omega) | decide | omega)
local macro_rules | `(tactic| walk_at "r1") => `(tactic| first
  | ((with_reducible refine R.var (v := ?v) ?h ?q); case h => rfl)
  | with_reducible apply R.cons
  | with_reducible apply R.c
  | with_reducible apply R.nil
  | with_reducible apply R.op
  | with_reducible apply R.gname
  | with_reducible apply R.seq
  | with_reducible apply R.call
  | with_reducible apply R.asg
  | with_reducible apply R.ex
  | with_reducible apply R.tst
  | with_reducible apply R.i0
  | with_reducible apply R.ifs
  | with_reducible apply R.ret
  | with_reducible apply R.retN
  | with_reducible apply R.drop
  | with_reducible apply R.next
  | with_reducible apply R.tb_
  | with_reducible apply R.eqI
  | with_reducible apply R.neI
  | ((with_reducible refine R.ic ?_ ?_); · walk_at "cond")
  | with_reducible apply R.u0
  | with_reducible apply R.un
  | ((with_reducible refine R.eq ?_ ?_); · rfl)
  | ((with_reducible refine R.ne ?_ ?_); · rfl)
  | with_reducible apply R.and_
  | with_reducible apply R.or_
  | with_reducible apply R.not_
  | with_reducible apply R.ife
  | with_reducible apply R.chain
  | with_reducible apply R.cb
  | with_reducible apply R.bm
  | with_reducible apply R.gsub
  | with_reducible apply R.gnil
  | with_reducible apply R.gcons
  | with_reducible apply R.yes
  | with_reducible apply R.int1
  | ((with_reducible refine R.lenL (xs := ?xs) ?h ?q); case h => walk_at "at")
  | ((with_reducible refine R.ixL (xs := ?xs) (v := ?v) ?h ?e ?q); (case h => walk_at "at"); (case e => walk_at "ix"))
  | ((with_reducible refine R.setL (xs := ?xs) (n := ?n) ?h ?e ?q); (case h => walk_at "at"); (case e => rfl))
  | ((with_reducible refine R.append (xs := ?xs) ?h ?e ?q); (case h => walk_at "at"); (case e => walk_at "cond"))
  | with_reducible apply R.is_
  | with_reducible apply R.isnot
  | with_reducible apply R.andV
  | with_reducible apply R.orV
  | with_reducible apply R.notV
  | ((with_reducible refine R.isi (s := ?s) (b := ?b) ?ty ?h ?q); (case ty => walk_at "ty"); (case h => walk_at "kit"))
  | ((with_reducible refine R.addS ?h ?q); (case h => walk_at "sz"))
  | with_reducible apply R.max2
  | with_reducible apply R.min2
  | ((with_reducible refine R.lenStr ?h ?q); (case h => walk_at "szl"))
  | ((with_reducible refine R.ixS (n := ?n) ?h ?e ?q); (case h => walk_at "szl"); (case e => walk_at "ix"))
  | ((with_reducible refine R.tyl (xs := ?xs) ?h ?q); (case h => walk_at "at"))
  | with_reducible apply R.itlist
  | with_reducible apply R.ittup
  | with_reducible apply R.m1
  | with_reducible apply R.m1s
  | with_reducible apply R.leS
  | with_reducible apply R.itstr
  | with_reducible apply R.itstrE
  | with_reducible apply R.lc
  | with_reducible apply R.lc2
  | with_reducible apply R.ckw
  | with_reducible apply R.par
  | with_reducible apply R.parE
  | with_reducible apply R.itrev
  | with_reducible apply R.dsetd
  | with_reducible apply R.dnotin_
  | with_reducible apply R.for_
  | ((with_reducible refine R.all_ (bs := ?bs) ?h ?q); (case h => walk_at "at"))
  | with_reducible apply R.rng1
  | ((with_reducible refine R.rngE ?h ?q); (case h => (constructor <;> omega)))
  | ((with_reducible refine R.lenT (xs := ?xs) ?h ?q); (case h => walk_at "sqt"))
  | ((with_reducible refine R.ixT (xs := ?xs) (v := ?v) ?h ?e ?q); (case h => walk_at "sqt"); (case e => walk_at "ix"))
  | ((refine R.itlE (xs := ?xs) ?h ?q); (case h => walk_at "at"))
  | ((refine R.ittE (xs := ?xs) ?h ?q); (case h => walk_at "at"))
  | ((refine R.gseq (xs := ?xs) ?h ?e ?q); (case h => walk_at "sqa"); (case e => rfl))
  | ((refine R.ixA (xs := ?xs) (v := ?v) ?h ?e ?q); (case h => walk_at "sqa"); (case e => walk_at "ix"))
  | ((refine R.lenA (xs := ?xs) ?h ?q); (case h => walk_at "sqa"))
  | ((with_reducible refine R.gtup (xs := ?xs) ?h ?e ?q); (case h => walk_at "sqt"); (case e => rfl))
  | with_reducible apply R.din_
  | with_reducible apply R.dput_
  | with_reducible apply R.dget2_
  | ((with_reducible refine R.aug_ (x := ?x) ?h ?q); case h => rfl)
  | with_reducible apply R.ipI_
  | with_reducible apply R.rng2
  | ((with_reducible refine R.rngE2 ?h ?q); (case h => (refine ⟨?_, ?_, ?_, ?_⟩ <;> omega)))
  | with_reducible apply R.brk
  | with_reducible apply R.intB
  | with_reducible apply R.meth_
  | ((refine KN.methS (rs := ?rs) (ms := ?ms) ?h (fun _ _ _ _ => rfl) ?q); case h => walk_at "sys")
  | with_reducible apply R.sl_
  | with_reducible apply R.np_
  | with_reducible apply R.pt_
  | with_reducible apply R.ptE
  | with_reducible apply R.dget_
  | with_reducible apply R.revL_
  | ((refine R.dgetS (kvs := ?kvs) (v := ?v) ?h ?e ?q); (case h => walk_at "at"); (case e => walk_at "dk"))
  | with_reducible apply R.sfld
  | with_reducible apply R.fld_
  | with_reducible apply R.dc
  | with_reducible apply R.dget1_
  | with_reducible apply R.itseq
  | with_reducible apply R.itenum
  | with_reducible apply R.itT
  | with_reducible apply R.itF
  | with_reducible apply R.itNT
  | with_reducible apply R.itNF
  | (with_reducible apply R.tup)
  | (with_reducible apply R.lst))
local macro_rules | `(tactic| walk_at "rd") => `(tactic| (repeat (first | walk_at "r1" | (dsimp only [Int.reduceToNat, List.set_cons_succ, List.set_cons_zero, List.length_cons, List.length_nil, List.nil_append, List.cons_append, List.append_nil]))))
local macro_rules | `(tactic| walk_at "go") => `(tactic| (rw [R.start_eq]; dsimp only [R.startE, List.map_nil]; walk_at "rd"))
namespace KN
open PySem L2 SX C8 R
section
variable {P : Program} {w : World} {K : PySem.W.Frag} {mg : Str → Option Value} {base : Heap}
/-- the module's numbers -/
structure Cs (mg : Str → Option Value) : Prop where
  MOST_SIMPLE : ∃ u, mg "MOST_SIMPLE" = some u ∧ RelV (.int 24) u
  MOST_MULTIPLIERS : ∃ u, mg "MOST_MULTIPLIERS" = some u ∧ RelV (.int 6) u
  LONGEST_WORD : ∃ u, mg "LONGEST_WORD" = some u ∧ RelV (.int 8) u
  GREATEST : ∃ u, mg "GREATEST" = some u ∧ RelV (.int 100000) u
abbrev sIsword : Stmt := top 9
theorem scIsword : FnScope ["text", "letter"] ["text"] (fnScope sIsword) := ⟨rfl, rfl, rfl, by decide +kernel, rfl, by decide +kernel, by decide +kernel⟩
def okSign (c : Nat) : Bool := decide (97 ≤ c) && decide (c ≤ 122)
def okWord (z : Str) : Bool := decide (1 ≤ (z.length : Int)) && decide ((z.length : Int) ≤ 8) && z.cps.toList.all okSign
def spIsword : Sp := fun vs H Q _ => ∃ z : Str, vs = [.str z] ∧ z.length ≤ 1000 ∧ ∀ H', Same H H' → Q (.bl (okWord z)) H'
theorem sign_ok (c : Nat) : ((!decide ([c] < [97])) && (!decide ([122] < [c]))) = okSign c := by
  unfold okSign
  have e1 : decide ([c] < [97]) = decide (c < 97) := decide_eq_decide.mpr lt1
  have e2 : decide ([122] < [c]) = decide (122 < c) := decide_eq_decide.mpr lt1
  rw [e1, e2]
  have e3 : (!decide (c < 97)) = decide (97 ≤ c) := by rw [← decide_not]; exact decide_eq_decide.mpr (by omega)
  have e4 : (!decide (122 < c)) = decide (c ≤ 122) := by rw [← decide_not]; exact decide_eq_decide.mpr (by omega)
  rw [e3, e4]
theorem c_is_word (Z : Zs mg) (C : Cs mg) {f : Addr} {fd : FuncData} (F : Def K mg "is_word" sIsword f fd) (b : Binds K fd ["text"] []) : Cal P w K mg base 1 "is_word" spIsword [] := by
  refine cal0 F b .nil scIsword (fun vs H Q E h => ?_) (fun cdv A outer s H vs Q E hr h => ?_)
  · obtain ⟨z, rfl, _⟩ := h
    rfl
  · obtain ⟨z, rfl, hz, k⟩ := h
    refine ⟨_, pss_one (ps_ret (pe_and (pe_chain op_le op_le pe_int (pe_callB cLenS (by rfl) Z.len PySem.boot_len (pa_cons (pv 0) pa_nil)) (pe_gc (by rfl) C.LONGEST_WORD)) (pe_one (pe_callB (kAll K) (by rfl) Z.all (by decide +kernel) (pa_cons (pe_lc (own := [("letter", 1)]) (g := gName 1) (tt := tYes) rfl scIsword.nd (pi_str (pv 0)) (blkOk_by (own := [("letter", 1)]) (N := ["text", "letter"]) (sc := fnScope sIsword) (by decide +kernel)) (fun _ _ _ _ _ => (pg_name (i := 1) scIsword.nd rfl (Or.inl rfl))) (fun _ _ _ _ _ => pts_nil) (fun _ _ _ _ _ => pe_chain oLeS oLeS pe_str (pv 1) pe_str)) pa_nil))))), ?_⟩
    have e0 : okWord z = (decide (1 ≤ (z.length : Int)) && decide ((z.length : Int) ≤ 8) && z.cps.toList.all okSign) := rfl
    walk_at "go"
    refine it (fun h1 => ?_) (fun h1 => ?_)
    · walk_at "rd"
      refine it (fun h2 => ?_) (fun h2 => ?_)
      · rw [decide_eq_true h1, decide_eq_true h2, Bool.true_and, Bool.true_and] at e0
        walk_at "rd"
        intro D hD
        refine lc_it walk_str (fun i H' => Same H H' ∧ H' D = some (.lst (((z.cps.toList.take i).map okSign).map V.bl))) ⟨same_new (Same.refl H) hD, upd_same⟩ (fun _ _ _ _ => trivial) ?_ ?_
        · rintro i x H1 H2 hi ⟨s0, hDc⟩ ⟨rfl, c, hc, rfl⟩
          have hc' : z.cps.toList[i]? = some c := by rw [← hc]; simp
          have fin : ∀ t : Bool, t = okSign c → ∃ acc, H2 D = some (.lst acc) ∧ acc.length < sizeLine ∧ Same H (upd H2 D (.lst (acc ++ [V.bl t]))) ∧ upd H2 D (.lst (acc ++ [V.bl t])) D = some (.lst (((z.cps.toList.take (i + 1)).map okSign).map V.bl)) := by
            rintro t rfl
            refine ⟨_, hDc, small1000 ?_, same_put s0 hD, ?_⟩
            · rw [List.length_map, List.length_map, List.length_take]
              have : z.length = z.cps.size := rfl
              omega
            · rw [upd_same, List.take_add_one, hc', List.map_append, List.map_append]
              rfl
          refine R.gname ⟨rfl, ?_⟩
          walk_at "rd"
          refine itn (fun h3 => ?_) (fun h3 => ?_)
          · walk_at "rd"
            refine fin _ ?_
            rw [← sign_ok]
            have h3' : ¬ [c] < [97] := h3
            rw [decide_eq_false h3']
            rfl
          · walk_at "rd"
            refine fin _ ?_
            rw [← sign_ok]
            have h3' : [c] < [97] := h3
            rw [decide_eq_true h3']
            rfl
        · rintro H' ⟨s0, hDc⟩
          have ht : z.cps.toList.take z.cps.size = z.cps.toList := List.take_of_length_le (by simp)
          rw [ht] at hDc
          walk_at "rd"
          have e1 : ((z.cps.toList.map okSign).all id) = z.cps.toList.all okSign := by rw [List.all_map]; rfl
          rw [e1, ← e0]
          exact k _ s0
      · rw [decide_eq_true h1, decide_eq_false h2] at e0
        walk_at "rd"
        have := k H (Same.refl H)
        rw [e0] at this
        exact this
    · rw [decide_eq_false h1] at e0
      walk_at "rd"
      have := k H (Same.refl H)
      rw [e0] at this
      exact this
end
end KN
end
section
set_option Elab.async false
set_option linter.all false
set_option maxRecDepth 100000
set_option maxHeartbeats 4000000
set_option pp.maxSteps 1500
set_option pp.deepTerms false
local macro_rules | `(tactic| walk_at "ne") => `(tactic| first
  | assumption | (apply Ne.symm; assumption)
  | exact R.ne_new (by assumption) | exact (R.ne_new (by assumption)).symm
  | exact L2.ne_of_none (by assumption) (by assumption) | exact (L2.ne_of_none (by assumption) (by assumption)).symm
  | exact L2.ne_of_none (by assumption) (R.free_new (by assumption)) | exact (L2.ne_of_none (by assumption) (R.free_new (by assumption))).symm)
local macro_rules | `(tactic| walk_at "at") => `(tactic| first
  | assumption | exact L2.upd_same
  | (refine R.sb (H := ?H) (p := ?p) ?e ?n ?h; (case e => assumption); (case n => walk_at "ne"); (case h => walk_at "at"))
  | (refine R.sm (H := ?H) ?e ?h; (case e => assumption); (case h => walk_at "at"))
  | (refine Eq.trans (L2.upd_ne ?_) ?_ <;> first | walk_at "ne" | walk_at "at"))
local macro_rules | `(tactic| walk_at "sqt") => `(tactic| first | assumption | (refine L2.SqT.of ?_; walk_at "at"))
local macro_rules | `(tactic| walk_at "ty") => `(tactic| first | exact R.tyN | exact R.tyB | exact R.tyI | exact R.tyS | (refine R.tyT (xs := ?xs) ?h; case h => walk_at "at") | (refine R.tyL (xs := ?xs) ?h; case h => walk_at "at"))
local macro_rules | `(tactic| walk_at "kit") => `(tactic| first | exact R.kit_NoneType_tuple | exact R.kit_NoneType_list | exact R.kit_NoneType_bool | exact R.kit_NoneType_str | exact R.kit_NoneType_int | exact R.kit_bool_tuple | exact R.kit_bool_list | exact R.kit_bool_bool | exact R.kit_bool_str | exact R.kit_bool_int | exact R.kit_int_tuple | exact R.kit_int_list | exact R.kit_int_bool | exact R.kit_int_str | exact R.kit_int_int | exact R.kit_str_tuple | exact R.kit_str_list | exact R.kit_str_bool | exact R.kit_str_str | exact R.kit_str_int | exact R.kit_tuple_tuple | exact R.kit_tuple_list | exact R.kit_tuple_bool | exact R.kit_tuple_str | exact R.kit_tuple_int | exact R.kit_list_tuple | exact R.kit_list_list | exact R.kit_list_bool | exact R.kit_list_str | exact R.kit_list_int)
local macro_rules | `(tactic| walk_at "sz") => `(tactic| first | assumption | (refine Nat.le_trans ?_ (show 1000 ≤ PySem.sizeLine by decide); omega) | decide)
local macro_rules | `(tactic| walk_at "szl") => `(tactic| first | assumption | exact Nat.le_of_lt (L2.small1000 (by omega)) | decide | decide +kernel)
local macro_rules | `(tactic| walk_at "sys") => `(tactic| first | assumption | exact KN.SysAt.same (by assumption) (by assumption))
local macro_rules | `(tactic| walk_at "dk") => `(tactic| first | exact R.rowsS _ _ | exact R.rowsM _ _)
local macro_rules | `(tactic| walk_at "sqa") => `(tactic| first | assumption | exact R.SeqA.same (by assumption) (by assumption) | exact R.SeqA.new (by assumption) (by assumption) | (exact Or.inl (by walk_at "at")) | (exact Or.inr (by walk_at "at")))
local macro_rules | `(tactic| walk_at "ix") => `(tactic| first | rfl | (exact L2.atI_nat (by assumption)) | assumption)
local macro_rules | `(tactic| walk_at "cond") => `(tactic| first
  | exact Or.inl (by decide) | exact Or.inr (by decide) | exact Or.inl ⟨by omega, by omega⟩ | exact Or.inr ⟨by omega, by omega⟩
  | (constructor <;> omega) | (show _ ≠ _; omega) | decide | omega)
local macro_rules | `(tactic| walk_at "r1") => `(tactic| first
  | ((with_reducible refine R.var (v := ?v) ?h ?q); case h => rfl)
  | with_reducible apply R.cons
  | with_reducible apply R.c
  | with_reducible apply R.nil
  | with_reducible apply R.op
  | with_reducible apply R.gname
  | with_reducible apply R.seq
  | with_reducible apply R.call
  | with_reducible apply R.asg
  | with_reducible apply R.ex
  | with_reducible apply R.tst
  | with_reducible apply R.i0
  | with_reducible apply R.ifs
  | with_reducible apply R.ret
  | with_reducible apply R.retN
  | with_reducible apply R.drop
  | with_reducible apply R.next
  | with_reducible apply R.tb_
  | with_reducible apply R.eqI
  | with_reducible apply R.neI
  | ((with_reducible refine R.ic ?_ ?_); · walk_at "cond")
  | with_reducible apply R.u0
  | with_reducible apply R.un
  | ((with_reducible refine R.eq ?_ ?_); · rfl)
  | ((with_reducible refine R.ne ?_ ?_); · rfl)
  | with_reducible apply R.and_
  | with_reducible apply R.or_
  | with_reducible apply R.not_
  | with_reducible apply R.ife
  | with_reducible apply R.chain
  | with_reducible apply R.cb
  | with_reducible apply R.bm
  | with_reducible apply R.gsub
  | with_reducible apply R.gnil
  | with_reducible apply R.gcons
  | with_reducible apply R.yes
  | with_reducible apply R.int1
  | ((with_reducible refine R.lenL (xs := ?xs) ?h ?q); case h => walk_at "at")
  | ((with_reducible refine R.ixL (xs := ?xs) (v := ?v) ?h ?e ?q); (case h => walk_at "at"); (case e => walk_at "ix"))
  | ((with_reducible refine R.setL (xs := ?xs) (n := ?n) ?h ?e ?q); (case h => walk_at "at"); (case e => rfl))
  | ((with_reducible refine R.append (xs := ?xs) ?h ?e ?q); (case h => walk_at "at"); (case e => walk_at "cond"))
  | with_reducible apply R.is_
  | with_reducible apply R.isnot
  | with_reducible apply R.andV
  | with_reducible apply R.orV
  | with_reducible apply R.notV
  | ((with_reducible refine R.isi (s := ?s) (b := ?b) ?ty ?h ?q); (case ty => walk_at "ty"); (case h => walk_at "kit"))
  | ((with_reducible refine R.addS ?h ?q); (case h => walk_at "sz"))
  | with_reducible apply R.max2
  | with_reducible apply R.min2
  | ((with_reducible refine R.lenStr ?h ?q); (case h => walk_at "szl"))
  | ((with_reducible refine R.ixS (n := ?n) ?h ?e ?q); (case h => walk_at "szl"); (case e => walk_at "ix"))
  | ((with_reducible refine R.tyl (xs := ?xs) ?h ?q); (case h => walk_at "at"))
  | with_reducible apply R.itlist
  | with_reducible apply R.ittup
  | with_reducible apply R.m1
  | with_reducible apply R.m1s
  | with_reducible apply R.leS
  | with_reducible apply R.itstr
  | with_reducible apply R.itstrE
  | with_reducible apply R.lc
  | with_reducible apply R.lc2
  | with_reducible apply R.ckw
  | with_reducible apply R.par
  | with_reducible apply R.parE
  | with_reducible apply R.itrev
  | with_reducible apply R.dsetd
  | with_reducible apply R.dnotin_
  | with_reducible apply R.for_
  | ((with_reducible refine R.all_ (bs := ?bs) ?h ?q); (case h => walk_at "at"))
  | with_reducible apply R.rng1
  | ((with_reducible refine R.rngE ?h ?q); (case h => (constructor <;> omega)))
  | ((with_reducible refine R.lenT (xs := ?xs) ?h ?q); (case h => walk_at "sqt"))
  | ((with_reducible refine R.ixT (xs := ?xs) (v := ?v) ?h ?e ?q); (case h => walk_at "sqt"); (case e => walk_at "ix"))
  | ((refine R.itlE (xs := ?xs) ?h ?q); (case h => walk_at "at"))
  | ((refine R.ittE (xs := ?xs) ?h ?q); (case h => walk_at "at"))
  | ((refine R.gseq (xs := ?xs) ?h ?e ?q); (case h => walk_at "sqa"); (case e => rfl))
  | ((refine R.ixA (xs := ?xs) (v := ?v) ?h ?e ?q); (case h => walk_at "sqa"); (case e => walk_at "ix"))
  | ((refine R.lenA (xs := ?xs) ?h ?q); (case h => walk_at "sqa"))
  | ((with_reducible refine R.gtup (xs := ?xs) ?h ?e ?q); (case h => walk_at "sqt"); (case e => rfl))
  | with_reducible apply R.din_
  | with_reducible apply R.dput_
  | with_reducible apply R.dget2_
  | ((with_reducible refine R.aug_ (x := ?x) ?h ?q); case h => rfl)
  | with_reducible apply R.ipI_
  | with_reducible apply R.rng2
  | ((with_reducible refine R.rngE2 ?h ?q); (case h => (refine ⟨?_, ?_, ?_, ?_⟩ <;> omega)))
  | with_reducible apply R.brk
  | with_reducible apply R.intB
  | with_reducible apply R.meth_
  | ((refine KN.methS (rs := ?rs) (ms := ?ms) ?h (fun _ _ _ _ => rfl) ?q); case h => walk_at "sys")
  | with_reducible apply R.sl_
  | with_reducible apply R.np_
  | with_reducible apply R.pt_
  | with_reducible apply R.ptE
  | with_reducible apply R.dget_
  | with_reducible apply R.revL_
  | ((refine R.dgetS (kvs := ?kvs) (v := ?v) ?h ?e ?q); (case h => walk_at "at"); (case e => walk_at "dk"))
  | with_reducible apply R.sfld
  | with_reducible apply R.fld_
  | with_reducible apply R.dc
  | with_reducible apply R.dget1_
  | with_reducible apply R.itseq
  | with_reducible apply R.itenum
  | with_reducible apply R.itT
  | with_reducible apply R.itF
  | with_reducible apply R.itNT
  | with_reducible apply R.itNF
  | (with_reducible apply R.tup)
  | (with_reducible apply R.lst))
local macro_rules | `(tactic| walk_at "rd") => `(tactic| (repeat (first | walk_at "r1" | (dsimp only [Int.reduceToNat, List.set_cons_succ, List.set_cons_zero, List.length_cons, List.length_nil, List.nil_append, List.cons_append, List.append_nil]))))
local macro_rules | `(tactic| walk_at "go") => `(tactic| (rw [R.start_eq]; dsimp only [R.startE, List.map_nil]; walk_at "rd"))
namespace KN
open PySem L2 SX C8 R
section
variable {P : Program} {w : World} {K : PySem.W.Frag} {mg : Str → Option Value} {base : Heap}
def GoodW (z : Str) : Prop := ∃ cs : List Nat, z = S cs ∧ 1 ≤ cs.length ∧ cs.length ≤ 8 ∧ ∀ c ∈ cs, 97 ≤ c ∧ c ≤ 122
theorem PoolAt.new {H : Hp} {p l t : Addr} {o : HO} (h : PoolAt H p l) (n : H t = none) : PoolAt (upd H t o) p l := by
  obtain ⟨⟨cs, i, d, s, h1, h2, h3⟩, h4⟩ := h
  exact ⟨⟨cs, i, d, s, by rw [upd_ne (ne_of_none h1 n)]; exact h1, by rw [upd_ne (ne_of_none h2 n)]; exact h2, h3⟩, h4⟩
/-- another object is changed -/
theorem PoolAt.put {H : Hp} {p l t : Addr} {o : HO} (h : PoolAt H p l) (n1 : t ≠ p) (n2 : t ≠ l) : PoolAt (upd H t o) p l := by
  obtain ⟨⟨cs, i, d, s, h1, h2, h3⟩, h4⟩ := h
  exact ⟨⟨cs, i, d, s, by rw [upd_ne n1.symm]; exact h1, by rw [upd_ne n2.symm]; exact h2, h3⟩, h4⟩
theorem PoolAt.same {H H' : Hp} {p l : Addr} (h : PoolAt H p l) (s : Same H H') : PoolAt H' p l := by
  obtain ⟨⟨cs, i, d, z, h1, h2, h3⟩, h4⟩ := h
  exact ⟨⟨cs, i, d, z, s _ _ h1, s _ _ h2, h3⟩, h4⟩
theorem PoolAt.nep {H : Hp} {p l t : Addr} (h : PoolAt H p l) (n : H t = none) : t ≠ p ∧ t ≠ l := by
  obtain ⟨⟨cs, i, d, s, h1, h2, h3⟩, h4⟩ := h
  exact ⟨(ne_of_none h1 n).symm, (ne_of_none h2 n).symm⟩
theorem r_take' {H : Hp} {Q : VK} {E : XK} {p l : Addr} {m : Int} (h : PoolAt H p l) (h1 : 1 ≤ m) (h2 : m ≤ 100000000) (q : ∀ H' d, SameBut p H H' → PoolAt H' p l → 0 ≤ d → d < m → Q (.int d) H') : spTake [.ref p, .int m] H Q E := ⟨p, l, m, rfl, h, h1, h2, q⟩
theorem okW_of {z : Str} (h : GoodW z) : okWord z = true := by
  obtain ⟨cs, rfl, h1, h2, h3⟩ := h
  unfold okWord
  rw [S_len]
  simp only [Bool.and_eq_true, decide_eq_true_eq, List.all_eq_true]
  refine ⟨⟨by omega, by omega⟩, fun c hc => ?_⟩
  have := h3 c hc
  unfold okSign
  simp only [Bool.and_eq_true, decide_eq_true_eq]
  exact this
theorem letters_all : ∀ n, n < 26 → (Str.ofString "abcdefghijklmnopqrstuvwxyz").cps.toList[n]? = some (97 + n) := by decide +kernel
theorem atI_pos {α : Type} {xs : List α} {z : Int} {v : α} (e : 0 ≤ z) (h : xs[z.toNat]? = some v) : atI xs z = some v := by
  have e' : z = ((z.toNat : Nat) : Int) := by omega
  rw [e']; exact atI_nat h
theorem letters_at {d : Int} (h0 : 0 ≤ d) (h1 : d < 26) : atI (Str.ofString "abcdefghijklmnopqrstuvwxyz").cps.toList d = some (97 + d.toNat) := atI_pos h0 (letters_all d.toNat (by omega))
/-- a row of simple words; of multipliers -/
structure SR where
  w : Str
  v : Int
structure MR where
  w : Str
  v : Int
  c : Option Int
  u : Bool
  r : Int
def ocnt : Option Int → V
  | none => .non
  | some i => .int i
def srV (r : SR) : List V := [.str r.w, .int r.v]
def mrV (m : MR) : List V := [.str m.w, .int m.v, ocnt m.c, .bl m.u, .int m.r]
structure GoodS (r : SR) : Prop where
  w : GoodW r.w
  lo : 1 ≤ r.v
  hi : r.v ≤ 100000
structure GoodM (m : MR) : Prop where
  w : GoodW m.w
  lo : 2 ≤ m.v
  hi : m.v ≤ 100000
  c : ∀ c, m.c = some c → 1 ≤ c ∧ c ≤ 100000 ∧ c * m.v + m.r ≤ 100000
  r0 : 0 ≤ m.r
  r1 : m.r < m.v
/-- the items are tuples of these -/
inductive TupsAt (H : Hp) : List V → List (List V) → Prop
  | nil : TupsAt H [] []
  | cons {a : Addr} {xs : List V} {d : List V} {ds : List (List V)} : H a = some (.tup d) → TupsAt H xs ds → TupsAt H (.ref a :: xs) (d :: ds)
def TupKeep (H H' : Hp) : Prop := ∀ a d, H a = some (.tup d) → H' a = some (.tup d)
theorem TupsAt.keep {H H' : Hp} (k : TupKeep H H') : ∀ {xs ds}, TupsAt H xs ds → TupsAt H' xs ds
  | _, _, .nil => .nil
  | _, _, .cons h t => .cons (k _ _ h) (TupsAt.keep k t)
theorem TupsAt.snoc {H : Hp} {a : Addr} {d : List V} (h : H a = some (.tup d)) : ∀ {xs ds}, TupsAt H xs ds → TupsAt H (xs ++ [.ref a]) (ds ++ [d])
  | _, _, .nil => .cons h .nil
  | _, _, .cons h' t => .cons h' (TupsAt.snoc h t)
theorem TupsAt.len {H : Hp} : ∀ {xs ds}, TupsAt H xs ds → xs.length = ds.length
  | _, _, .nil => rfl
  | _, _, .cons _ t => by rw [List.length_cons, List.length_cons, TupsAt.len t]
theorem TupsAt.get {H : Hp} : ∀ {xs ds}, TupsAt H xs ds → ∀ (i : Nat) (d : List V), ds[i]? = some d → ∃ a, xs[i]? = some (.ref a) ∧ H a = some (.tup d)
  | _, _, .nil, i, d, h => by simp at h
  | _, _, .cons h t, 0, d, e => by
    cases e
    exact ⟨_, rfl, h⟩
  | _, _, .cons h t, i + 1, d, e => TupsAt.get t i d e
theorem keep_new {H : Hp} {a : Addr} {o : HO} (n : H a = none) : TupKeep H (upd H a o) := fun b d h => by rw [upd_ne (ne_of_none h n)]; exact h
theorem keep_list {H : Hp} {a : Addr} {o : HO} {xs : List V} (n : H a = some (.lst xs)) : TupKeep H (upd H a o) := fun b d h => by
  rw [upd_ne (ne_of h n (by intro z; cases z))]; exact h
theorem keep_pool {H H' : Hp} {p l : Addr} (h : PoolAt H p l) (s : SameBut p H H') : TupKeep H H' := fun b d e => by
  obtain ⟨⟨cs, i, dd, z, h1, h2⟩, h4⟩ := h
  exact s b _ (ne_of e h1 (by intro z; cases z)) e
theorem nodup_snoc {α : Type} {l : List α} {a : α} (h : l.Nodup) (n : a ∉ l) : (l ++ [a]).Nodup := by
  rw [List.nodup_append]
  exact ⟨h, by simp, fun x hx y hy e => by rw [List.mem_singleton.mp hy] at e; exact n (e ▸ hx)⟩
end
end KN
end
section
set_option Elab.async false
set_option linter.all false
set_option maxRecDepth 100000
set_option maxHeartbeats 4000000
set_option pp.maxSteps 1500
set_option pp.deepTerms false
local macro_rules | `(tactic| walk_at "ne") => `(tactic| first
  | assumption | (apply Ne.symm; assumption)
  | exact R.ne_new (by assumption) | exact (R.ne_new (by assumption)).symm
  | exact L2.ne_of_none (by assumption) (by assumption) | exact (L2.ne_of_none (by assumption) (by assumption)).symm
  | exact L2.ne_of_none (by assumption) (R.free_new (by assumption)) | exact (L2.ne_of_none (by assumption) (R.free_new (by assumption))).symm)
local macro_rules | `(tactic| walk_at "at") => `(tactic| first
  | assumption | exact L2.upd_same
  | (refine R.sb (H := ?H) (p := ?p) ?e ?n ?h; (case e => assumption); (case n => walk_at "ne"); (case h => walk_at "at"))
  | (refine R.sm (H := ?H) ?e ?h; (case e => assumption); (case h => walk_at "at"))
  | (refine Eq.trans (L2.upd_ne ?_) ?_ <;> first | walk_at "ne" | walk_at "at"))
local macro_rules | `(tactic| walk_at "sqt") => `(tactic| first | assumption | (refine L2.SqT.of ?_; walk_at "at"))
local macro_rules | `(tactic| walk_at "ty") => `(tactic| first | exact R.tyN | exact R.tyB | exact R.tyI | exact R.tyS | (refine R.tyT (xs := ?xs) ?h; case h => walk_at "at") | (refine R.tyL (xs := ?xs) ?h; case h => walk_at "at"))
local macro_rules | `(tactic| walk_at "kit") => `(tactic| first | exact R.kit_NoneType_tuple | exact R.kit_NoneType_list | exact R.kit_NoneType_bool | exact R.kit_NoneType_str | exact R.kit_NoneType_int | exact R.kit_bool_tuple | exact R.kit_bool_list | exact R.kit_bool_bool | exact R.kit_bool_str | exact R.kit_bool_int | exact R.kit_int_tuple | exact R.kit_int_list | exact R.kit_int_bool | exact R.kit_int_str | exact R.kit_int_int | exact R.kit_str_tuple | exact R.kit_str_list | exact R.kit_str_bool | exact R.kit_str_str | exact R.kit_str_int | exact R.kit_tuple_tuple | exact R.kit_tuple_list | exact R.kit_tuple_bool | exact R.kit_tuple_str | exact R.kit_tuple_int | exact R.kit_list_tuple | exact R.kit_list_list | exact R.kit_list_bool | exact R.kit_list_str | exact R.kit_list_int)
local macro_rules | `(tactic| walk_at "sz") => `(tactic| first | assumption | (refine Nat.le_trans ?_ (show 1000 ≤ PySem.sizeLine by decide); omega) | decide)
local macro_rules | `(tactic| walk_at "szl") => `(tactic| first | assumption | exact Nat.le_of_lt (L2.small1000 (by omega)) | decide | decide +kernel)
local macro_rules | `(tactic| walk_at "sys") => `(tactic| first | assumption | exact KN.SysAt.same (by assumption) (by assumption))
local macro_rules | `(tactic| walk_at "dk") => `(tactic| first | exact R.rowsS _ _ | exact R.rowsM _ _)
local macro_rules | `(tactic| walk_at "sqa") => `(tactic| first | assumption | exact R.SeqA.same (by assumption) (by assumption) | exact R.SeqA.new (by assumption) (by assumption) | (exact Or.inl (by walk_at "at")) | (exact Or.inr (by walk_at "at")))
local macro_rules | `(tactic| walk_at "ix") => `(tactic| first | rfl | (exact L2.atI_nat (by assumption)) | assumption)
local macro_rules | `(tactic| walk_at "cond") => `(tactic| first
  | exact Or.inl (by decide) | exact Or.inr (by decide) | exact Or.inl ⟨by omega, by omega⟩ | exact Or.inr ⟨by omega, by omega⟩
  | (constructor <;> omega) | (show _ ≠ _; omega) | decide | omega)
local macro_rules | `(tactic| walk_at "r1") => `(tactic| first
  | ((with_reducible refine R.var (v := ?v) ?h ?q); case h => rfl)
  | with_reducible apply R.cons
  | with_reducible apply R.c
  | with_reducible apply R.nil
  | with_reducible apply R.op
  | with_reducible apply R.gname
  | with_reducible apply R.seq
  | with_reducible apply R.call
  | with_reducible apply R.asg
  | with_reducible apply R.ex
  | with_reducible apply R.tst
  | with_reducible apply R.i0
  | with_reducible apply R.ifs
  | with_reducible apply R.ret
  | with_reducible apply R.retN
  | with_reducible apply R.drop
  | with_reducible apply R.next
  | with_reducible apply R.tb_
  | with_reducible apply R.eqI
  | with_reducible apply R.neI
  | ((with_reducible refine R.ic ?_ ?_); · walk_at "cond")
  | with_reducible apply R.u0
  | with_reducible apply R.un
  | ((with_reducible refine R.eq ?_ ?_); · rfl)
  | ((with_reducible refine R.ne ?_ ?_); · rfl)
  | with_reducible apply R.and_
  | with_reducible apply R.or_
  | with_reducible apply R.not_
  | with_reducible apply R.ife
  | with_reducible apply R.chain
  | with_reducible apply R.cb
  | with_reducible apply R.bm
  | with_reducible apply R.gsub
  | with_reducible apply R.gnil
  | with_reducible apply R.gcons
  | with_reducible apply R.yes
  | with_reducible apply R.int1
  | ((with_reducible refine R.lenL (xs := ?xs) ?h ?q); case h => walk_at "at")
  | ((with_reducible refine R.ixL (xs := ?xs) (v := ?v) ?h ?e ?q); (case h => walk_at "at"); (case e => walk_at "ix"))
  | ((with_reducible refine R.setL (xs := ?xs) (n := ?n) ?h ?e ?q); (case h => walk_at "at"); (case e => rfl))
  | ((with_reducible refine R.append (xs := ?xs) ?h ?e ?q); (case h => walk_at "at"); (case e => walk_at "cond"))
  | with_reducible apply R.is_
  | with_reducible apply R.isnot
  | with_reducible apply R.andV
  | with_reducible apply R.orV
  | with_reducible apply R.notV
  | ((with_reducible refine R.isi (s := ?s) (b := ?b) ?ty ?h ?q); (case ty => walk_at "ty"); (case h => walk_at "kit"))
  | ((with_reducible refine R.addS ?h ?q); (case h => walk_at "sz"))
  | with_reducible apply R.max2
  | with_reducible apply R.min2
  | ((with_reducible refine R.lenStr ?h ?q); (case h => walk_at "szl"))
  | ((with_reducible refine R.ixS (n := ?n) ?h ?e ?q); (case h => walk_at "szl"); (case e => walk_at "ix"))
  | ((with_reducible refine R.tyl (xs := ?xs) ?h ?q); (case h => walk_at "at"))
  | with_reducible apply R.itlist
  | with_reducible apply R.ittup
  | with_reducible apply R.m1
  | with_reducible apply R.m1s
  | with_reducible apply R.leS
  | with_reducible apply R.itstr
  | with_reducible apply R.itstrE
  | with_reducible apply R.lc
  | with_reducible apply R.lc2
  | with_reducible apply R.ckw
  | with_reducible apply R.par
  | with_reducible apply R.parE
  | with_reducible apply R.itrev
  | with_reducible apply R.dsetd
  | with_reducible apply R.dnotin_
  | with_reducible apply R.for_
  | ((with_reducible refine R.all_ (bs := ?bs) ?h ?q); (case h => walk_at "at"))
  | with_reducible apply R.rng1
  | ((with_reducible refine R.rngE ?h ?q); (case h => (constructor <;> omega)))
  | ((with_reducible refine R.lenT (xs := ?xs) ?h ?q); (case h => walk_at "sqt"))
  | ((with_reducible refine R.ixT (xs := ?xs) (v := ?v) ?h ?e ?q); (case h => walk_at "sqt"); (case e => walk_at "ix"))
  | ((refine R.itlE (xs := ?xs) ?h ?q); (case h => walk_at "at"))
  | ((refine R.ittE (xs := ?xs) ?h ?q); (case h => walk_at "at"))
  | ((refine R.gseq (xs := ?xs) ?h ?e ?q); (case h => walk_at "sqa"); (case e => rfl))
  | ((refine R.ixA (xs := ?xs) (v := ?v) ?h ?e ?q); (case h => walk_at "sqa"); (case e => walk_at "ix"))
  | ((refine R.lenA (xs := ?xs) ?h ?q); (case h => walk_at "sqa"))
  | ((with_reducible refine R.gtup (xs := ?xs) ?h ?e ?q); (case h => walk_at "sqt"); (case e => rfl))
  | with_reducible apply R.din_
  | with_reducible apply R.dput_
  | with_reducible apply R.dget2_
  | ((with_reducible refine R.aug_ (x := ?x) ?h ?q); case h => rfl)
  | with_reducible apply R.ipI_
  | with_reducible apply R.rng2
  | ((with_reducible refine R.rngE2 ?h ?q); (case h => (refine ⟨?_, ?_, ?_, ?_⟩ <;> omega)))
  | with_reducible apply R.brk
  | with_reducible apply R.intB
  | with_reducible apply R.meth_
  | ((refine KN.methS (rs := ?rs) (ms := ?ms) ?h (fun _ _ _ _ => rfl) ?q); case h => walk_at "sys")
  | with_reducible apply R.sl_
  | with_reducible apply R.np_
  | with_reducible apply R.pt_
  | with_reducible apply R.ptE
  | with_reducible apply R.dget_
  | with_reducible apply R.revL_
  | ((refine R.dgetS (kvs := ?kvs) (v := ?v) ?h ?e ?q); (case h => walk_at "at"); (case e => walk_at "dk"))
  | with_reducible apply R.sfld
  | with_reducible apply R.fld_
  | with_reducible apply R.dc
  | with_reducible apply R.dget1_
  | with_reducible apply R.itseq
  | with_reducible apply R.itenum
  | with_reducible apply R.itT
  | with_reducible apply R.itF
  | with_reducible apply R.itNT
  | with_reducible apply R.itNF
  | (with_reducible apply R.tup)
  | (with_reducible apply R.lst))
local macro_rules | `(tactic| walk_at "rd") => `(tactic| (repeat (first | walk_at "r1" | (dsimp only [Int.reduceToNat, List.set_cons_succ, List.set_cons_zero, List.length_cons, List.length_nil, List.nil_append, List.cons_append, List.append_nil]))))
local macro_rules | `(tactic| walk_at "go") => `(tactic| (rw [R.start_eq]; dsimp only [R.startE, List.map_nil]; walk_at "rd"))
namespace KN
open PySem L2 SX R
open C8 (Cal Def cal0 pe_c pe_gc fnScope fnBody)
section
variable {P : Program} {w : World} {K : PySem.W.Frag} {mg : Str → Option Value} {base : Heap}
abbrev sSfault : Stmt := top 11
theorem scSfault : FnScope ["row", "word", "value"] ["row"] (fnScope sSfault) := ⟨rfl, rfl, rfl, by decide +kernel, rfl, by decide +kernel, by decide +kernel⟩
abbrev sMfault : Stmt := top 12
theorem scMfault : FnScope ["row", "word", "value", "count", "_", "rest"] ["row"] (fnScope sMfault) := ⟨rfl, rfl, rfl, by decide +kernel, rfl, by decide +kernel, by decide +kernel⟩
/-- what is wrong with a simple row -/
def sfc (z : Str) (v : Int) : Option Str := if okWord z = true then (if 1 ≤ v ∧ v ≤ 100000 then none else some "value") else some "word"
def sF : List V → Option Str
  | [.str z, .int v] => sfc z v
  | _ => some "length"
inductive SShape : List V → Prop
  | no {d : List V} (h : d.length ≠ 2) : SShape d
  | yes (z : Str) (v : Int) (h : z.length ≤ 1000) : SShape [.str z, .int v]
def oS : Option Str → V
  | none => .non
  | some z => .str z
def spSf : Sp := fun vs H Q _ => ∃ (a : Addr) (d : List V), vs = [.ref a] ∧ SeqA H a d ∧ SShape d ∧ ∀ H', Same H H' → Q (oS (sF d)) H'
theorem c_simple_fault (Z : Zs mg) (C : Cs mg) (c_is_word : Cal P w K mg base 1 "is_word" spIsword []) {f : Addr} {fd : FuncData} (F : Def K mg "simple_fault" sSfault f fd) (b : Binds K fd ["row"] []) : Cal P w K mg base 2 "simple_fault" spSf [] := by
  refine cal0 F b .nil scSfault (fun vs H Q E h => ?_) (fun cdv A outer s H vs Q E hr h => ?_)
  · obtain ⟨a, d, rfl, _⟩ := h
    rfl
  · obtain ⟨a, d, rfl, ha, hd, k⟩ := h
    refine ⟨_, pss_cons (ps_if (pt_cmpR op_ne (pe_callB (kLen K) (by rfl) Z.len PySem.boot_len (pa_cons (pv 0) pa_nil)) pe_int (nomark _))
        (pss_one (ps_ret pe_str))
        (pss_nil))
      (pss_cons (ps_asg (pv 0) (kgSeq K (n := 2) rfl (pgs_cons (pg_name (i := 1) scSfault.nd rfl (Or.inl rfl)) (pgs_cons (pg_name (i := 2) scSfault.nd rfl (Or.inl rfl)) pgs_nil))))
      (pss_cons (ps_if (pt_not (pt_val (pe_c c_is_word hr (by omega) (by rfl) (pa_cons (pv 1) pa_nil))))
        (pss_one (ps_ret pe_str))
        (pss_nil))
      (pss_cons (ps_if (pt_not (pt_chain op_le op_le pe_int (pv 2) (pe_gc (by rfl) C.GREATEST)))
        (pss_one (ps_ret pe_str))
        (pss_nil))
      (pss_one (ps_ret pe_non))))), ?_⟩
    cases hd with
    | no h =>
      walk_at "go"
      refine itn (fun _ => ?_) (fun z => absurd z (by omega))
      walk_at "rd"
      have e : sF d = some "length" := by
        unfold sF
        split
        · exact absurd rfl h
        · rfl
      have k' := k H (Same.refl H)
      rw [e] at k'
      exact k'
    | yes z v h =>
      walk_at "go"
      refine itn (fun q => absurd rfl q) (fun _ => ?_)
      walk_at "rd"
      refine ⟨z, rfl, h, fun H1 s1 => ?_⟩
      have k' : Q (oS (sfc z v)) H1 := k H1 s1
      unfold sfc at k'
      walk_at "rd"
      refine itBn (fun h1 => ?_) (fun h1 => ?_)
      · rw [if_neg (by rw [h1]; exact Bool.false_ne_true)] at k'
        walk_at "rd"
        exact k'
      · rw [if_pos h1] at k'
        walk_at "rd"
        refine it (fun h2 => ?_) (fun h2 => ?_)
        · walk_at "rd"
          refine itn (fun h3 => ?_) (fun h3 => ?_)
          · rw [if_neg (by omega)] at k'
            walk_at "rd"
            exact k'
          · rw [if_pos (by omega)] at k'
            walk_at "rd"
            exact k'
        · rw [if_neg (by omega)] at k'
          walk_at "rd"
          exact k'
/-- what is wrong with a multiplier's row -/
def cOk : Option Int → Bool
  | none => true
  | some n => decide (1 ≤ n ∧ n ≤ 100000)
def lOk (v r : Int) : Option Int → Bool
  | none => true
  | some n => decide (n * v + r ≤ 100000)
def mfc (z : Str) (v : Int) (c : Option Int) (r : Int) : Option Str :=
  if okWord z = true then
    (if 2 ≤ v ∧ v ≤ 100000 then
      (if cOk c = true then (if 0 ≤ r ∧ r < v then (if lOk v r c = true then none else some "large") else some "rest") else some "count")
     else some "value")
  else some "word"
inductive MShape : List V → Option Str → Prop
  | no {d : List V} (h : d.length ≠ 5) : MShape d (some "length")
  | yes (z : Str) (v : Int) (c : Option Int) (u : Bool) (r : Int) (h : z.length ≤ 1000) : MShape [.str z, .int v, ocnt c, .bl u, .int r] (mfc z v c r)
def spMf : Sp := fun vs H Q _ => ∃ (a : Addr) (d : List V) (o : Option Str), vs = [.ref a] ∧ SeqA H a d ∧ MShape d o ∧ ∀ H', Same H H' → Q (oS o) H'
theorem c_multiplier_fault (Z : Zs mg) (C : Cs mg) (c_is_word : Cal P w K mg base 1 "is_word" spIsword []) {f : Addr} {fd : FuncData} (F : Def K mg "multiplier_fault" sMfault f fd) (b : Binds K fd ["row"] []) : Cal P w K mg base 2 "multiplier_fault" spMf [] := by
  refine cal0 F b .nil scMfault (fun vs H Q E h => ?_) (fun cdv A outer s H vs Q E hr h => ?_)
  · obtain ⟨a, d, o, rfl, _⟩ := h
    rfl
  · obtain ⟨a, d, o, rfl, ha, hd, k⟩ := h
    refine ⟨_, pss_cons (ps_if (pt_cmpR op_ne (pe_callB (kLen K) (by rfl) Z.len PySem.boot_len (pa_cons (pv 0) pa_nil)) pe_int (nomark _))
        (pss_one (ps_ret pe_str))
        (pss_nil))
      (pss_cons (ps_asg (pv 0) (kgSeq K (n := 5) rfl (pgs_cons (pg_name (i := 1) scMfault.nd rfl (Or.inl rfl)) (pgs_cons (pg_name (i := 2) scMfault.nd rfl (Or.inl rfl)) (pgs_cons (pg_name (i := 3) scMfault.nd rfl (Or.inl rfl)) (pgs_cons (pg_name (i := 4) scMfault.nd rfl (Or.inl rfl)) (pgs_cons (pg_name (i := 5) scMfault.nd rfl (Or.inl rfl)) pgs_nil)))))))
      (pss_cons (ps_if (pt_not (pt_val (pe_c c_is_word hr (by omega) (by rfl) (pa_cons (pv 1) pa_nil))))
        (pss_one (ps_ret pe_str))
        (pss_nil))
      (pss_cons (ps_if (pt_not (pt_chain op_le op_le pe_int (pv 2) (pe_gc (by rfl) C.GREATEST)))
        (pss_one (ps_ret pe_str))
        (pss_nil))
      (pss_cons (ps_if (PW.pt (pw_and (pt_cmpR oIsNot (pv 3) pe_non (nomark _)) (pw_and1 (pt_not (pt_chain op_le op_le pe_int (pv 3) (pe_gc (by rfl) C.GREATEST))))))
        (pss_one (ps_ret pe_str))
        (pss_nil))
      (pss_cons (ps_if (pt_not (pt_chain op_le op_lt pe_int (pv 5) (pv 2)))
        (pss_one (ps_ret pe_str))
        (pss_nil))
      (pss_cons (ps_if (PW.pt (pw_and (pt_cmpR oIsNot (pv 3) pe_non (nomark _)) (pw_and1 (pt_cmpR op_gt (pe_op op_add (pe_op op_mul (pv 3) (pv 2)) (pv 5)) (pe_gc (by rfl) C.GREATEST) (nomark _)))))
        (pss_one (ps_ret pe_str))
        (pss_nil))
      (pss_one (ps_ret pe_non)))))))), ?_⟩
    cases hd with
    | no h =>
      walk_at "go"
      refine itn (fun _ => ?_) (fun z => absurd z (by omega))
      walk_at "rd"
      exact k H (Same.refl H)
    | yes z v c u r h =>
      walk_at "go"
      refine itn (fun q => absurd rfl q) (fun _ => ?_)
      walk_at "rd"
      refine ⟨z, rfl, h, fun H1 s1 => ?_⟩
      have k' : Q (oS (mfc z v c r)) H1 := k H1 s1
      unfold mfc at k'
      walk_at "rd"
      refine itBn (fun h1 => ?_) (fun h1 => ?_)
      · rw [if_neg (by rw [h1]; exact Bool.false_ne_true)] at k'
        walk_at "rd"
        exact k'
      · rw [if_pos h1] at k'
        walk_at "rd"
        refine it (fun h2 => ?_) (fun h2 => ?_)
        · walk_at "rd"
          refine itn (fun h3 => ?_) (fun h3 => ?_)
          · rw [if_neg (by omega)] at k'
            walk_at "rd"
            exact k'
          · rw [if_pos (by omega)] at k'
            walk_at "rd"
            cases c with
            | none =>
              rw [if_pos (show cOk none = true from rfl)] at k'
              refine itn (fun q => absurd rfl q) (fun _ => ?_)
              walk_at "rd"
              refine it (fun h4 => ?_) (fun h4 => ?_)
              · walk_at "rd"
                refine itn (fun h5 => ?_) (fun h5 => ?_)
                · rw [if_neg (by omega)] at k'
                  walk_at "rd"
                  exact k'
                · rw [if_pos (by omega), if_pos (show lOk v r none = true from rfl)] at k'
                  walk_at "rd"
                  refine itn (fun q => absurd rfl q) (fun _ => ?_)
                  walk_at "rd"
                  exact k'
              · rw [if_neg (by omega)] at k'
                walk_at "rd"
                exact k'
            | some n =>
              rw [show ocnt (some n) = V.int n from rfl] at *
              have e1 : cOk (some n) = decide (1 ≤ n ∧ n ≤ 100000) := rfl
              have e2 : lOk v r (some n) = decide (n * v + r ≤ 100000) := rfl
              rw [e1, e2] at k'
              refine itn (fun _ => ?_) (fun q => nomatch q)
              walk_at "rd"
              refine it (fun h6 => ?_) (fun h6 => ?_)
              · walk_at "rd"
                refine itn (fun h7 => ?_) (fun h7 => ?_)
                · rw [if_neg (by rw [decide_eq_false (by omega)]; exact Bool.false_ne_true)] at k'
                  walk_at "rd"
                  exact k'
                · rw [if_pos (decide_eq_true (by omega))] at k'
                  walk_at "rd"
                  refine it (fun h4 => ?_) (fun h4 => ?_)
                  · walk_at "rd"
                    refine itn (fun h5 => ?_) (fun h5 => ?_)
                    · rw [if_neg (by omega)] at k'
                      walk_at "rd"
                      exact k'
                    · rw [if_pos (by omega)] at k'
                      walk_at "rd"
                      refine itn (fun _ => ?_) (fun q => nomatch q)
                      walk_at "rd"
                      refine it (fun h8 => ?_) (fun h8 => ?_)
                      · rw [if_neg (by rw [decide_eq_false (by omega)]; exact Bool.false_ne_true)] at k'
                        walk_at "rd"
                        exact k'
                      · rw [if_pos (decide_eq_true (by omega))] at k'
                        walk_at "rd"
                        exact k'
                  · rw [if_neg (by omega)] at k'
                    walk_at "rd"
                    exact k'
              · rw [if_neg (by rw [decide_eq_false (by omega)]; exact Bool.false_ne_true)] at k'
                walk_at "rd"
                exact k'
        · rw [if_neg (by omega)] at k'
          walk_at "rd"
          exact k'
end
end KN
end
section
set_option Elab.async false
set_option linter.all false
set_option maxRecDepth 100000
set_option maxHeartbeats 4000000
set_option pp.maxSteps 1500
set_option pp.deepTerms false
local macro_rules | `(tactic| walk_at "ne") => `(tactic| first
  | assumption | (apply Ne.symm; assumption)
  | exact R.ne_new (by assumption) | exact (R.ne_new (by assumption)).symm
  | exact L2.ne_of_none (by assumption) (by assumption) | exact (L2.ne_of_none (by assumption) (by assumption)).symm
  | exact L2.ne_of_none (by assumption) (R.free_new (by assumption)) | exact (L2.ne_of_none (by assumption) (R.free_new (by assumption))).symm)
local macro_rules | `(tactic| walk_at "at") => `(tactic| first
  | assumption | exact L2.upd_same
  | (refine R.sb (H := ?H) (p := ?p) ?e ?n ?h; (case e => assumption); (case n => walk_at "ne"); (case h => walk_at "at"))
  | (refine R.sm (H := ?H) ?e ?h; (case e => assumption); (case h => walk_at "at"))
  | (refine Eq.trans (L2.upd_ne ?_) ?_ <;> first | walk_at "ne" | walk_at "at"))
local macro_rules | `(tactic| walk_at "sqt") => `(tactic| first | assumption | (refine L2.SqT.of ?_; walk_at "at"))
local macro_rules | `(tactic| walk_at "ty") => `(tactic| first | exact R.tyN | exact R.tyB | exact R.tyI | exact R.tyS | (refine R.tyT (xs := ?xs) ?h; case h => walk_at "at") | (refine R.tyL (xs := ?xs) ?h; case h => walk_at "at"))
local macro_rules | `(tactic| walk_at "kit") => `(tactic| first | exact R.kit_NoneType_tuple | exact R.kit_NoneType_list | exact R.kit_NoneType_bool | exact R.kit_NoneType_str | exact R.kit_NoneType_int | exact R.kit_bool_tuple | exact R.kit_bool_list | exact R.kit_bool_bool | exact R.kit_bool_str | exact R.kit_bool_int | exact R.kit_int_tuple | exact R.kit_int_list | exact R.kit_int_bool | exact R.kit_int_str | exact R.kit_int_int | exact R.kit_str_tuple | exact R.kit_str_list | exact R.kit_str_bool | exact R.kit_str_str | exact R.kit_str_int | exact R.kit_tuple_tuple | exact R.kit_tuple_list | exact R.kit_tuple_bool | exact R.kit_tuple_str | exact R.kit_tuple_int | exact R.kit_list_tuple | exact R.kit_list_list | exact R.kit_list_bool | exact R.kit_list_str | exact R.kit_list_int)
local macro_rules | `(tactic| walk_at "sz") => `(tactic| first | assumption | (refine Nat.le_trans ?_ (show 1000 ≤ PySem.sizeLine by decide); omega) | decide)
local macro_rules | `(tactic| walk_at "szl") => `(tactic| first | assumption | exact Nat.le_of_lt (L2.small1000 (by omega)) | decide | decide +kernel)
local macro_rules | `(tactic| walk_at "sys") => `(tactic| first | assumption | exact KN.SysAt.same (by assumption) (by assumption))
local macro_rules | `(tactic| walk_at "dk") => `(tactic| first | exact R.rowsS _ _ | exact R.rowsM _ _)
local macro_rules | `(tactic| walk_at "sqa") => `(tactic| first | assumption | exact R.SeqA.same (by assumption) (by assumption) | exact R.SeqA.new (by assumption) (by assumption) | (exact Or.inl (by walk_at "at")) | (exact Or.inr (by walk_at "at")))
local macro_rules | `(tactic| walk_at "ix") => `(tactic| first | rfl | (exact L2.atI_nat (by assumption)) | assumption)
local macro_rules | `(tactic| walk_at "cond") => `(tactic| first
  | exact Or.inl (by decide) | exact Or.inr (by decide) | exact Or.inl ⟨by omega, by omega⟩ | exact Or.inr ⟨by omega, by omega⟩
  | (constructor <;> omega) | (show _ ≠ _; omega) | decide | omega)
local macro_rules | `(tactic| walk_at "r1") => `(tactic| first
  | ((with_reducible refine R.var (v := ?v) ?h ?q); case h => rfl)
  | with_reducible apply R.cons
  | with_reducible apply R.c
  | with_reducible apply R.nil
  | with_reducible apply R.op
  | with_reducible apply R.gname
  | with_reducible apply R.seq
  | with_reducible apply R.call
  | with_reducible apply R.asg
  | with_reducible apply R.ex
  | with_reducible apply R.tst
  | with_reducible apply R.i0
  | with_reducible apply R.ifs
  | with_reducible apply R.ret
  | with_reducible apply R.retN
  | with_reducible apply R.drop
  | with_reducible apply R.next
  | with_reducible apply R.tb_
  | with_reducible apply R.eqI
  | with_reducible apply R.neI
  | ((with_reducible refine R.ic ?_ ?_); · walk_at "cond")
  | with_reducible apply R.u0
  | with_reducible apply R.un
  | ((with_reducible refine R.eq ?_ ?_); · rfl)
  | ((with_reducible refine R.ne ?_ ?_); · rfl)
  | with_reducible apply R.and_
  | with_reducible apply R.or_
  | with_reducible apply R.not_
  | with_reducible apply R.ife
  | with_reducible apply R.chain
  | with_reducible apply R.cb
  | with_reducible apply R.bm
  | with_reducible apply R.gsub
  | with_reducible apply R.gnil
  | with_reducible apply R.gcons
  | with_reducible apply R.yes
  | with_reducible apply R.int1
  | ((with_reducible refine R.lenL (xs := ?xs) ?h ?q); case h => walk_at "at")
  | ((with_reducible refine R.ixL (xs := ?xs) (v := ?v) ?h ?e ?q); (case h => walk_at "at"); (case e => walk_at "ix"))
  | ((with_reducible refine R.setL (xs := ?xs) (n := ?n) ?h ?e ?q); (case h => walk_at "at"); (case e => rfl))
  | ((with_reducible refine R.append (xs := ?xs) ?h ?e ?q); (case h => walk_at "at"); (case e => walk_at "cond"))
  | with_reducible apply R.is_
  | with_reducible apply R.isnot
  | with_reducible apply R.andV
  | with_reducible apply R.orV
  | with_reducible apply R.notV
  | ((with_reducible refine R.isi (s := ?s) (b := ?b) ?ty ?h ?q); (case ty => walk_at "ty"); (case h => walk_at "kit"))
  | ((with_reducible refine R.addS ?h ?q); (case h => walk_at "sz"))
  | with_reducible apply R.max2
  | with_reducible apply R.min2
  | ((with_reducible refine R.lenStr ?h ?q); (case h => walk_at "szl"))
  | ((with_reducible refine R.ixS (n := ?n) ?h ?e ?q); (case h => walk_at "szl"); (case e => walk_at "ix"))
  | ((with_reducible refine R.tyl (xs := ?xs) ?h ?q); (case h => walk_at "at"))
  | with_reducible apply R.itlist
  | with_reducible apply R.ittup
  | with_reducible apply R.m1
  | with_reducible apply R.m1s
  | with_reducible apply R.leS
  | with_reducible apply R.itstr
  | with_reducible apply R.itstrE
  | with_reducible apply R.lc
  | with_reducible apply R.lc2
  | with_reducible apply R.ckw
  | with_reducible apply R.par
  | with_reducible apply R.parE
  | with_reducible apply R.itrev
  | with_reducible apply R.dsetd
  | with_reducible apply R.dnotin_
  | with_reducible apply R.for_
  | ((with_reducible refine R.all_ (bs := ?bs) ?h ?q); (case h => walk_at "at"))
  | with_reducible apply R.rng1
  | ((with_reducible refine R.rngE ?h ?q); (case h => (constructor <;> omega)))
  | ((with_reducible refine R.lenT (xs := ?xs) ?h ?q); (case h => walk_at "sqt"))
  | ((with_reducible refine R.ixT (xs := ?xs) (v := ?v) ?h ?e ?q); (case h => walk_at "sqt"); (case e => walk_at "ix"))
  | ((refine R.itlE (xs := ?xs) ?h ?q); (case h => walk_at "at"))
  | ((refine R.ittE (xs := ?xs) ?h ?q); (case h => walk_at "at"))
  | ((refine R.gseq (xs := ?xs) ?h ?e ?q); (case h => walk_at "sqa"); (case e => rfl))
  | ((refine R.ixA (xs := ?xs) (v := ?v) ?h ?e ?q); (case h => walk_at "sqa"); (case e => walk_at "ix"))
  | ((refine R.lenA (xs := ?xs) ?h ?q); (case h => walk_at "sqa"))
  | ((with_reducible refine R.gtup (xs := ?xs) ?h ?e ?q); (case h => walk_at "sqt"); (case e => rfl))
  | with_reducible apply R.din_
  | with_reducible apply R.dput_
  | with_reducible apply R.dget2_
  | ((with_reducible refine R.aug_ (x := ?x) ?h ?q); case h => rfl)
  | with_reducible apply R.ipI_
  | with_reducible apply R.rng2
  | ((with_reducible refine R.rngE2 ?h ?q); (case h => (refine ⟨?_, ?_, ?_, ?_⟩ <;> omega)))
  | with_reducible apply R.brk
  | with_reducible apply R.intB
  | with_reducible apply R.meth_
  | ((refine KN.methS (rs := ?rs) (ms := ?ms) ?h (fun _ _ _ _ => rfl) ?q); case h => walk_at "sys")
  | with_reducible apply R.sl_
  | with_reducible apply R.np_
  | with_reducible apply R.pt_
  | with_reducible apply R.ptE
  | with_reducible apply R.dget_
  | with_reducible apply R.revL_
  | ((refine R.dgetS (kvs := ?kvs) (v := ?v) ?h ?e ?q); (case h => walk_at "at"); (case e => walk_at "dk"))
  | with_reducible apply R.sfld
  | with_reducible apply R.fld_
  | with_reducible apply R.dc
  | with_reducible apply R.dget1_
  | with_reducible apply R.itseq
  | with_reducible apply R.itenum
  | with_reducible apply R.itT
  | with_reducible apply R.itF
  | with_reducible apply R.itNT
  | with_reducible apply R.itNF
  | (with_reducible apply R.tup)
  | (with_reducible apply R.lst))
local macro_rules | `(tactic| walk_at "rd") => `(tactic| (repeat (first | walk_at "r1" | (dsimp only [Int.reduceToNat, List.set_cons_succ, List.set_cons_zero, List.length_cons, List.length_nil, List.nil_append, List.cons_append, List.append_nil]))))
local macro_rules | `(tactic| walk_at "go") => `(tactic| (rw [R.start_eq]; dsimp only [R.startE, List.map_nil]; walk_at "rd"))
namespace KN
open PySem L2 SX R
open C8 (Cal Def cal0 pe_c pe_gc fnScope fnBody)
section
variable {P : Program} {w : World} {K : PySem.W.Frag} {mg : Str → Option Value} {base : Heap}
abbrev sBad : Stmt := inClass (top 8) 0
theorem scBad : FnScope ["self", "part", "number", "reason"] ["self", "part", "number", "reason"] (defScope sBad) := ⟨rfl, rfl, rfl, by decide +kernel, rfl, by decide +kernel, by decide +kernel⟩
/-- what stands of BadSystem, at C -/
structure BadK (K : PySem.W.Frag) (mg : Str → Option Value) (C fI : Addr) : Prop where
  oex : OexC K C
  iC : PySem.W.findIn K (.ref C) "__init__" = some (some (.ref fI))
  tI : PySem.W.typeIn K (.ref fI) = some (.type "function")
  gC : mg "BadSystem" = some (.ref C)
  nP : PySem.W.findIn K (.ref C) "part" = some none
  nN : PySem.W.findIn K (.ref C) "number" = some none
  nR : PySem.W.findIn K (.ref C) "reason" = some none
def badFs (p n r : V) : List (Str × V) := [("reason", r), ("number", n), ("part", p)]
def spBadI (C : Addr) : Sp := fun vs H Q _ => ∃ (a : Addr) (p n r : V), vs = [.ref a, p, n, r] ∧ H a = some (exo a C none) ∧
  ∀ dx H', H dx = none → dx ≠ a → (∀ b o, b ≠ a → H b = some o → H' b = some o) → H' a = some (exo a C (some dx)) → H' dx = some (exd dx (badFs p n r)) → Q .non H'
theorem ok_bad {C fI : Addr} {fd : FuncData} (T : BadK K mg C fI) (F : Fun K "__init__" "BadSystem.__init__" sBad fI fd) : FnOk P w K mg base CX0 1 fI fd ["self", "part", "number", "reason"] (spBadI C) := by
  refine F.ok scBad (fun vs H Q E h => ?_) (fun cdv A outer s H vs Q E hr h => ?_)
  · obtain ⟨a, p, n, r, rfl, _⟩ := h
    rfl
  · obtain ⟨a, p, n, r, rfl, ha, k⟩ := h
    refine ⟨_, pss_cons (ps_ost (pv 0) (pv 1)) (pss_cons (ps_ost (pv 0) (pv 2)) (pss_one (ps_ost (pv 0) (pv 3)))), ?_⟩
    refine ⟨_, rfl, _, rfl, a, C, rfl, T.oex, T.nP, .inl ⟨ha, fun dx hdx nda => ?_⟩⟩
    have ad : a ≠ dx := nda.symm
    refine ⟨_, rfl, _, rfl, a, C, rfl, T.oex, T.nN, .inr ⟨dx, _, upd_same, by rw [upd_ne nda]; exact upd_same, by show 1 ≤ 900; decide, ?_⟩⟩
    refine ⟨_, rfl, _, rfl, a, C, rfl, T.oex, T.nR, .inr ⟨dx, _, by rw [upd_ne ad]; exact upd_same, upd_same, by show 2 ≤ 900; decide, ?_⟩⟩
    refine k dx _ hdx nda (fun b o hb e => ?_) (by rw [upd_ne ad, upd_ne ad]; exact upd_same) upd_same
    have bd : b ≠ dx := ne_of_none e hdx
    rw [upd_ne bd, upd_ne bd, upd_ne hb, upd_ne bd]
    exact e
end
/-- the making of a BadSystem, read -/
theorem r_bad {C : Addr} {H1 : Hp} {p n r : V} {QX : XK} (k : ∀ d H', Same H1 H' → H1 d = none → H' d = some (.xd (badFs p n r)) → QX (.ref C) (some d) H') :
    [p, n, r].length ≤ 1000 ∧ ∀ a, H1 a = none → spBadI C (.ref a :: ([p, n, r] ++ [])) (upd H1 a (exo a C none))
      (fun v H2 => v = .non ∧ ∃ (d : Addr) (fs : List (Str × V)), H2 a = some (exo a C (some d)) ∧ H2 d = some (exd d fs) ∧ H1 d = none ∧ QX (.ref C) (some d) (upd (del H2 a) d (.xd fs))) (fun _ _ _ => False) := by
  refine ⟨by show 3 ≤ 1000; decide, fun a ha => ⟨a, p, n, r, rfl, upd_same, fun dx H' hdx nda hk h1 h2 => ⟨rfl, dx, badFs p n r, h1, h2, ?_, ?_⟩⟩⟩
  · rw [upd_ne nda] at hdx; exact hdx
  · have hdx1 : H1 dx = none := by rw [upd_ne nda] at hdx; exact hdx
    refine k dx _ (fun b o e => ?_) hdx1 upd_same
    have bd : b ≠ dx := ne_of_none e hdx1
    have ba : b ≠ a := ne_of_none e ha
    rw [upd_ne bd, del_ne ba]
    exact hk b o ba (by rw [upd_ne ba]; exact e)
/-! ### defs that may raise -/
structure CalX (P : Program) (w : World) (K : PySem.W.Frag) (mg : Str → Option Value) (base : Heap) (k : Nat) (x : Str) (sp : Sp) : Prop where
  ex : ∃ (f : Addr) (fd : FuncData) (ps : List Str), FnOk P w K mg base (L2.CX P w) k f fd ps sp ∧ mg x = some (.ref f) ∧ PySem.W.keepIn K (.ref f) = true ∧ Binds K fd ps []
section
variable {P : Program} {w : World} {K : PySem.W.Frag} {mg : Str → Option Value} {base : Heap}
theorem calX0 {x : Str} {st : Stmt} {f : Addr} {fd : FuncData} {N ps : List Str} {k : Nat} {sp : Sp} (F : Def K mg x st f fd) (b : Binds K fd ps []) (S : FnScope N ps (fnScope st)) (len : ∀ vs H Q E, sp vs H Q E → vs.length = ps.length)
    (hbody : ∀ (cdv : Value) (A : Around) (outer : List Env) (s : Shared) (H : Hp) (vs : List V) (Q : VK) (E : XK), Room k (A.deeper (PyProof.Rows.envOfC x (fnScope st) s.heap.objs.size f cdv)) → sp vs H Q E →
      ∃ t, PSs (cxOf (L2.CX P w) P w K mg base N x (fnScope st) f cdv A outer s H E) (fnBody st) t ∧ t { nx := fun _ H' => Q .non H', rt := Q } (start N vs) H) : CalX P w K mg base (k + 1) x sp := by
  obtain ⟨oc, od, dV, kV, doc, pm, an, cdv, ct, osl, rfl, lk, hcd⟩ := F.fn.ex
  refine ⟨f, _, ps, fn_of lk hcd S len fun A outer s H vs Q E hr hsp => ?_, F.mgf, F.kp, b⟩
  exact hbody cdv A outer s H vs Q E hr hsp
end
section
variable {X : Cx} {k j : Nat} {x : Str} {sp : Sp} {E : XK} {p pos : Pos} {e : Expr} {es : List Expr} {t : TA}
/-- a call of one, what it raises goes on -/
theorem pe_cx (c : CalX X.prog X.w X.K X.mg X.base k x sp) (hr : Room j X.A) (hk : k ≤ j) (tk : Takes X fun cls d _ H => E cls d H) (hg : Gl X x) (ha : PA X (e :: es) t)
    (hdb : (x == ("__debug__" : Str)) = false := by decide) (he : starEach (e :: es) X.env = (false, eval e X.env) :: starEach es X.env := by rfl) (hpl : (backTo pos (starEach es X.env)).any (·.1) = false := by rfl) :
    PE X (.Call (.Name x p) (e :: es) [] pos) (tCall sp [] E t) := by
  obtain ⟨f, fd, ps, F, hm, kp, b⟩ := c.ex
  exact pe_call F (hr.mono hk) hg hm kp b .nil (passes_call tk fun _ _ _ _ h => h) ha hdb he hpl
end
section
variable {P : Program} {w : World} {K : PySem.W.Frag} {mg : Str → Option Value} {base : Heap}
abbrev sCkrows : Stmt := top 13
theorem scCkrows : FnScope ["part", "rows", "most", "fault", "number", "row", "reason"] ["part", "rows", "most", "fault"] (fnScope sCkrows) := ⟨rfl, rfl, rfl, by decide +kernel, rfl, by decide +kernel, by decide +kernel⟩
/-- the rows of these, lists or tuples of lists or tuples -/
def RowsIn (H : Hp) (a : Addr) (ds : List (List V)) : Prop := ∃ xs : List V, SeqA H a xs ∧ xs.length = ds.length ∧ ∀ (i : Nat) (d : List V), ds[i]? = some d → ∃ b, xs[i]? = some (.ref b) ∧ SeqA H b d
theorem RowsIn.same {H H' : Hp} {a : Addr} {ds : List (List V)} (s : Same H H') (h : RowsIn H a ds) : RowsIn H' a ds := by
  obtain ⟨xs, h1, h2, h3⟩ := h
  exact ⟨xs, h1.same s, h2, fun i d e => let ⟨b, hb, hd⟩ := h3 i d e; ⟨b, hb, hd.same s⟩⟩
/-- which fault is asked, and what it tells of a row -/
def Flt (fS fM f : Addr) (d : List V) (o : Option Str) : Prop := (f = fS ∧ SShape d ∧ o = sF d) ∨ (f = fM ∧ MShape d o)
def spCheck (C fS fM : Addr) : Sp := fun vs H Q E => ∃ (part : Str) (a f : Addr) (most : Int) (ds : List (List V)) (os : List (Option Str)), vs = [.str part, .ref a, .int most, .ref f] ∧ RowsIn H a ds ∧ (f = fS ∨ f = fM) ∧ os.length = ds.length ∧ ds.length ≤ 1000 ∧
  (∀ (i : Nat) (d : List V) (o : Option Str), ds[i]? = some d → os[i]? = some o → Flt fS fM f d o) ∧
  (most < ds.length → ∀ (d : Addr) (H' : Hp), Same H H' → H' d = some (.xd (badFs (.str part) .non (.str "many"))) → E (.ref C) (some d) H') ∧
  ((ds.length : Int) ≤ most → ∀ (j : Nat) (r : Str), os[j]? = some (some r) → (∀ i, i < j → os[i]? = some none) → ∀ (d : Addr) (H' : Hp), Same H H' → H' d = some (.xd (badFs (.str part) (.int j) (.str r))) → E (.ref C) (some d) H') ∧
  ((ds.length : Int) ≤ most → (∀ i, i < ds.length → os[i]? = some none) → ∀ H', Same H H' → Q .non H')
theorem c_check_rows (Z : Zs mg) {C fI fS fM : Addr} {fdI : FuncData} (TB : BadK K mg C fI) (GB : FnOk P w K mg base CX0 1 fI fdI ["self", "part", "number", "reason"] (spBadI C)) (bB : Binds K fdI ["self", "part", "number", "reason"] [])
    (cS : C8.CalAt P w K mg base 2 fS spSf) (cM : C8.CalAt P w K mg base 2 fM spMf) {f : Addr} {fd : FuncData} (F : Def K mg "check_rows" sCkrows f fd) (b : Binds K fd ["part", "rows", "most", "fault"] []) : CalX P w K mg base 3 "check_rows" (spCheck C fS fM) := by
  refine calX0 F b scCkrows (fun vs H Q E h => ?_) (fun cdv A outer s H vs Q E hr h => ?_)
  · obtain ⟨part, a, f, most, ds, os, rfl, _⟩ := h
    rfl
  · obtain ⟨part, a, f, most, ds, os, rfl, hR, hf, hol, hds, hflt, kE1, kE2, kQ⟩ := h
    refine ⟨_, pss_cons (ps_if (pt_cmpR op_gt (pe_callB (kLen K) (by rfl) Z.len PySem.boot_len (pa_cons (pv 1) pa_nil)) (pv 2) (nomark _))
        (pss_one (ps_raise rfl (takes_of rfl rfl rfl rfl) (pmk_oex TB.oex TB.iC TB.tI GB (hr.mono (by omega)) bB .nil pass0 rfl TB.gC (pa_cons (pv 0) (pa_cons pe_non (pa_cons pe_str pa_nil))))))
        (pss_nil))
      (pss_one (ps_for (passes_of rfl) rfl (kiEnum K (by rfl) Z.enumerate (pa_cons (pv 1) pa_nil)) (kgTup K (n := 2) rfl (pgs_cons (pg_name (i := 4) scCkrows.nd rfl (Or.inl rfl)) (pgs_cons (pg_name (i := 5) scCkrows.nd rfl (Or.inl rfl)) pgs_nil)))
        (pss_cons (ps_set (i := 6) scCkrows.nd rfl (Or.inl rfl) (C8.pe_cv cS cM hr (by omega) (by omega) (i := 3) rfl (Or.inl rfl) (pa_cons (pv 5) pa_nil)))
      (pss_one (ps_if (pt_cmpR oIsNot (pv 6) pe_non (nomark _))
        (pss_one (ps_raise rfl (takes_of rfl rfl rfl rfl) (pmk_oex TB.oex TB.iC TB.tI GB (hr.mono (by omega)) bB .nil pass0 rfl TB.gC (pa_cons (pv 0) (pa_cons (pv 4) (pa_cons (pv 6) pa_nil))))))
        (pss_nil)))))), ?_⟩
    obtain ⟨xs, hxs, hxl, hrow⟩ := id hR
    walk_at "go"
    refine it (fun h1 => ?_) (fun h1 => ?_)
    · walk_at "rd"
      unfold tMkO
      walk_at "rd"
      exact r_bad fun d H' s1 _ h => kE1 (by omega) d H' s1 h
    · walk_at "rd"
      have hm : (ds.length : Int) ≤ most := by omega
      refine for_enum hxs (fun i σ' H' => ∃ n r v, σ' = [some (V.str part), some (.ref a), some (.int most), some (.ref f), n, r, v] ∧ Same H H' ∧ ∀ j, j < i → os[j]? = some none) ⟨none, none, none, rfl, Same.refl H, fun j h => absurd h (Nat.not_lt_zero _)⟩
        (fun i σ' H' _ hp => by obtain ⟨_, _, _, _, s1, _⟩ := hp; exact fun o h => s1 _ _ h) ?_ ?_
      · rintro i x σ' H1 T hi ⟨n0, r0, v0, rfl, s1, hall⟩ hT
        have hid : i < ds.length := by have := (List.getElem?_eq_some_iff.mp hi).1; omega
        have hdi : ds[i]? = some ds[i] := List.getElem?_eq_getElem hid
        have hoi : os[i]? = some os[i] := List.getElem?_eq_getElem (by omega)
        obtain ⟨b, hb, hbd⟩ := hrow i _ hdi
        rw [hb] at hi
        cases hi
        have hfl := hflt i _ _ hdi hoi
        have s2 : Same H (upd H1 T (.tup [.int (i : Nat), .ref b])) := same_new s1 hT
        have hTt : upd H1 T (.tup [V.int (i : Nat), .ref b]) T = some (.tup [.int (i : Nat), .ref b]) := upd_same
        have hb2 := hbd.same s2
        generalize upd H1 T (.tup [V.int (i : Nat), .ref b]) = H2 at s2 hTt hb2 ⊢
        have rest : ∀ H3, Same H2 H3 → ∀ D : Ends, D.nx = (fun σ' H' => ∃ n r v, σ' = [some (V.str part), some (.ref a), some (.int most), some (.ref f), n, r, v] ∧ Same H H' ∧ ∀ j, j < i + 1 → os[j]? = some none) →
            (if (!decide (oS os[i] = V.non)) = true then tMkO C (spBadI C) [] (tCons (tVar 0) (tCons (tVar 4) (tCons (tVar 6) tNil))) [some (V.str part), some (.ref a), some (.int most), some (.ref f), some (.int (i : Nat)), some (.ref b), some (oS os[i])] H3 (fun cls d H' => E cls d H')
              else D.nx [some (V.str part), some (.ref a), some (.int most), some (.ref f), some (.int (i : Nat)), some (.ref b), some (oS os[i])] H3) := by
          intro H3 s3 D eD
          rw [eD]
          cases ho : os[i] with
          | none =>
            refine itn (fun q => absurd rfl q) (fun _ => ?_)
            refine ⟨_, _, _, rfl, s2.trans s3, fun j hj => ?_⟩
            by_cases hji : j = i
            · rw [hji, hoi, ho]
            · exact hall j (by omega)
          | some r =>
            refine itn (fun _ => ?_) (fun q => nomatch (show V.str r = V.non from q))
            unfold tMkO
            walk_at "rd"
            exact r_bad fun d H' s4 _ h => kE2 hm i r (by rw [hoi, ho]) hall d H' ((s2.trans s3).trans s4) h
        walk_at "rd"
        rcases hfl with ⟨ef, hsh, eo⟩ | ⟨ef, hsh⟩
        · subst ef
          refine .inl ⟨rfl, ?_⟩
          walk_at "rd"
          refine ⟨b, _, rfl, hb2, hsh, fun H3 s3 => ?_⟩
          rw [← eo]
          walk_at "rd"
          exact rest H3 s3 _ rfl
        · subst ef
          refine .inr ⟨rfl, ?_⟩
          walk_at "rd"
          refine ⟨b, _, _, rfl, hb2, hsh, fun H3 s3 => ?_⟩
          walk_at "rd"
          exact rest H3 s3 _ rfl
      · rintro σ' H1 ⟨n0, r0, v0, rfl, s1, hall⟩
        exact kQ hm (fun i hi => hall i (by omega)) H1 s1
end
end KN
end
section
set_option Elab.async false
set_option linter.all false
set_option maxRecDepth 100000
set_option maxHeartbeats 4000000
set_option pp.maxSteps 1500
set_option pp.deepTerms false
local macro_rules | `(tactic| walk_at "ne") => `(tactic| first
  | assumption | (apply Ne.symm; assumption)
  | exact R.ne_new (by assumption) | exact (R.ne_new (by assumption)).symm
  | exact L2.ne_of_none (by assumption) (by assumption) | exact (L2.ne_of_none (by assumption) (by assumption)).symm
  | exact L2.ne_of_none (by assumption) (R.free_new (by assumption)) | exact (L2.ne_of_none (by assumption) (R.free_new (by assumption))).symm)
local macro_rules | `(tactic| walk_at "at") => `(tactic| first
  | assumption | exact L2.upd_same
  | (refine R.sb (H := ?H) (p := ?p) ?e ?n ?h; (case e => assumption); (case n => walk_at "ne"); (case h => walk_at "at"))
  | (refine R.sm (H := ?H) ?e ?h; (case e => assumption); (case h => walk_at "at"))
  | (refine Eq.trans (L2.upd_ne ?_) ?_ <;> first | walk_at "ne" | walk_at "at"))
local macro_rules | `(tactic| walk_at "sqt") => `(tactic| first | assumption | (refine L2.SqT.of ?_; walk_at "at"))
local macro_rules | `(tactic| walk_at "ty") => `(tactic| first | exact R.tyN | exact R.tyB | exact R.tyI | exact R.tyS | (refine R.tyT (xs := ?xs) ?h; case h => walk_at "at") | (refine R.tyL (xs := ?xs) ?h; case h => walk_at "at"))
local macro_rules | `(tactic| walk_at "kit") => `(tactic| first | exact R.kit_NoneType_tuple | exact R.kit_NoneType_list | exact R.kit_NoneType_bool | exact R.kit_NoneType_str | exact R.kit_NoneType_int | exact R.kit_bool_tuple | exact R.kit_bool_list | exact R.kit_bool_bool | exact R.kit_bool_str | exact R.kit_bool_int | exact R.kit_int_tuple | exact R.kit_int_list | exact R.kit_int_bool | exact R.kit_int_str | exact R.kit_int_int | exact R.kit_str_tuple | exact R.kit_str_list | exact R.kit_str_bool | exact R.kit_str_str | exact R.kit_str_int | exact R.kit_tuple_tuple | exact R.kit_tuple_list | exact R.kit_tuple_bool | exact R.kit_tuple_str | exact R.kit_tuple_int | exact R.kit_list_tuple | exact R.kit_list_list | exact R.kit_list_bool | exact R.kit_list_str | exact R.kit_list_int)
local macro_rules | `(tactic| walk_at "sz") => `(tactic| first | assumption | (refine Nat.le_trans ?_ (show 1000 ≤ PySem.sizeLine by decide); omega) | decide)
local macro_rules | `(tactic| walk_at "szl") => `(tactic| first | assumption | exact Nat.le_of_lt (L2.small1000 (by omega)) | decide | decide +kernel)
local macro_rules | `(tactic| walk_at "sys") => `(tactic| first | assumption | exact KN.SysAt.same (by assumption) (by assumption))
local macro_rules | `(tactic| walk_at "dk") => `(tactic| first | exact R.rowsS _ _ | exact R.rowsM _ _)
local macro_rules | `(tactic| walk_at "sqa") => `(tactic| first | assumption | exact R.SeqA.same (by assumption) (by assumption) | exact R.SeqA.new (by assumption) (by assumption) | (exact Or.inl (by walk_at "at")) | (exact Or.inr (by walk_at "at")))
local macro_rules | `(tactic| walk_at "ix") => `(tactic| first | rfl | (exact L2.atI_nat (by assumption)) | assumption)
local macro_rules | `(tactic| walk_at "cond") => `(tactic| first
  | exact Or.inl (by decide) | exact Or.inr (by decide) | exact Or.inl ⟨by omega, by omega⟩ | exact Or.inr ⟨by omega, by omega⟩
  | (constructor <;> omega) | (show _ ≠ _; omega) | decide | omega)
local macro_rules | `(tactic| walk_at "r1") => `(tactic| first
  | ((with_reducible refine R.var (v := ?v) ?h ?q); case h => rfl)
  | with_reducible apply R.cons
  | with_reducible apply R.c
  | with_reducible apply R.nil
  | with_reducible apply R.op
  | with_reducible apply R.gname
  | with_reducible apply R.seq
  | with_reducible apply R.call
  | with_reducible apply R.asg
  | with_reducible apply R.ex
  | with_reducible apply R.tst
  | with_reducible apply R.i0
  | with_reducible apply R.ifs
  | with_reducible apply R.ret
  | with_reducible apply R.retN
  | with_reducible apply R.drop
  | with_reducible apply R.next
  | with_reducible apply R.tb_
  | with_reducible apply R.eqI
  | with_reducible apply R.neI
  | ((with_reducible refine R.ic ?_ ?_); · walk_at "cond")
  | with_reducible apply R.u0
  | with_reducible apply R.un
  | ((with_reducible refine R.eq ?_ ?_); · rfl)
  | ((with_reducible refine R.ne ?_ ?_); · rfl)
  | with_reducible apply R.and_
  | with_reducible apply R.or_
  | with_reducible apply R.not_
  | with_reducible apply R.ife
  | with_reducible apply R.chain
  | with_reducible apply R.cb
  | with_reducible apply R.bm
  | with_reducible apply R.gsub
  | with_reducible apply R.gnil
  | with_reducible apply R.gcons
  | with_reducible apply R.yes
  | with_reducible apply R.int1
  | ((with_reducible refine R.lenL (xs := ?xs) ?h ?q); case h => walk_at "at")
  | ((with_reducible refine R.ixL (xs := ?xs) (v := ?v) ?h ?e ?q); (case h => walk_at "at"); (case e => walk_at "ix"))
  | ((with_reducible refine R.setL (xs := ?xs) (n := ?n) ?h ?e ?q); (case h => walk_at "at"); (case e => rfl))
  | ((with_reducible refine R.append (xs := ?xs) ?h ?e ?q); (case h => walk_at "at"); (case e => walk_at "cond"))
  | with_reducible apply R.is_
  | with_reducible apply R.isnot
  | with_reducible apply R.andV
  | with_reducible apply R.orV
  | with_reducible apply R.notV
  | ((with_reducible refine R.isi (s := ?s) (b := ?b) ?ty ?h ?q); (case ty => walk_at "ty"); (case h => walk_at "kit"))
  | ((with_reducible refine R.addS ?h ?q); (case h => walk_at "sz"))
  | with_reducible apply R.max2
  | with_reducible apply R.min2
  | ((with_reducible refine R.lenStr ?h ?q); (case h => walk_at "szl"))
  | ((with_reducible refine R.ixS (n := ?n) ?h ?e ?q); (case h => walk_at "szl"); (case e => walk_at "ix"))
  | ((with_reducible refine R.tyl (xs := ?xs) ?h ?q); (case h => walk_at "at"))
  | with_reducible apply R.itlist
  | with_reducible apply R.ittup
  | with_reducible apply R.m1
  | with_reducible apply R.m1s
  | with_reducible apply R.leS
  | with_reducible apply R.itstr
  | with_reducible apply R.itstrE
  | with_reducible apply R.lc
  | with_reducible apply R.lc2
  | with_reducible apply R.ckw
  | with_reducible apply R.par
  | with_reducible apply R.parE
  | with_reducible apply R.itrev
  | with_reducible apply R.dsetd
  | with_reducible apply R.dnotin_
  | with_reducible apply R.for_
  | ((with_reducible refine R.all_ (bs := ?bs) ?h ?q); (case h => walk_at "at"))
  | with_reducible apply R.rng1
  | ((with_reducible refine R.rngE ?h ?q); (case h => (constructor <;> omega)))
  | ((with_reducible refine R.lenT (xs := ?xs) ?h ?q); (case h => walk_at "sqt"))
  | ((with_reducible refine R.ixT (xs := ?xs) (v := ?v) ?h ?e ?q); (case h => walk_at "sqt"); (case e => walk_at "ix"))
  | ((refine R.itlE (xs := ?xs) ?h ?q); (case h => walk_at "at"))
  | ((refine R.ittE (xs := ?xs) ?h ?q); (case h => walk_at "at"))
  | ((refine R.gseq (xs := ?xs) ?h ?e ?q); (case h => walk_at "sqa"); (case e => rfl))
  | ((refine R.ixA (xs := ?xs) (v := ?v) ?h ?e ?q); (case h => walk_at "sqa"); (case e => walk_at "ix"))
  | ((refine R.lenA (xs := ?xs) ?h ?q); (case h => walk_at "sqa"))
  | ((with_reducible refine R.gtup (xs := ?xs) ?h ?e ?q); (case h => walk_at "sqt"); (case e => rfl))
  | with_reducible apply R.din_
  | with_reducible apply R.dput_
  | with_reducible apply R.dget2_
  | ((with_reducible refine R.aug_ (x := ?x) ?h ?q); case h => rfl)
  | with_reducible apply R.ipI_
  | with_reducible apply R.rng2
  | ((with_reducible refine R.rngE2 ?h ?q); (case h => (refine ⟨?_, ?_, ?_, ?_⟩ <;> omega)))
  | with_reducible apply R.brk
  | with_reducible apply R.intB
  | with_reducible apply R.meth_
  | ((refine KN.methS (rs := ?rs) (ms := ?ms) ?h (fun _ _ _ _ => rfl) ?q); case h => walk_at "sys")
  | with_reducible apply R.sl_
  | with_reducible apply R.np_
  | with_reducible apply R.pt_
  | with_reducible apply R.ptE
  | with_reducible apply R.dget_
  | with_reducible apply R.revL_
  | ((refine R.dgetS (kvs := ?kvs) (v := ?v) ?h ?e ?q); (case h => walk_at "at"); (case e => walk_at "dk"))
  | with_reducible apply R.sfld
  | with_reducible apply R.fld_
  | with_reducible apply R.dc
  | with_reducible apply R.dget1_
  | with_reducible apply R.itseq
  | with_reducible apply R.itenum
  | with_reducible apply R.itT
  | with_reducible apply R.itF
  | with_reducible apply R.itNT
  | with_reducible apply R.itNF
  | (with_reducible apply R.tup)
  | (with_reducible apply R.lst))
local macro_rules | `(tactic| walk_at "rd") => `(tactic| (repeat (first | walk_at "r1" | (dsimp only [Int.reduceToNat, List.set_cons_succ, List.set_cons_zero, List.length_cons, List.length_nil, List.nil_append, List.cons_append, List.append_nil]))))
local macro_rules | `(tactic| walk_at "go") => `(tactic| (rw [R.start_eq]; dsimp only [R.startE, List.map_nil]; walk_at "rd"))
namespace KN
open PySem L2 SX R
open C8 (Cal Def cal0 pe_c pe_gc fnScope fnBody)
section
variable {P : Program} {w : World} {K : PySem.W.Frag} {mg : Str → Option Value} {base : Heap}
abbrev sCktwice : Stmt := top 14
theorem scCktwice : FnScope ["simple", "multipliers", "seen", "part", "rows", "number", "row"] ["simple", "multipliers"] (fnScope sCktwice) := ⟨rfl, rfl, rfl, by decide +kernel, rfl, by decide +kernel, by decide +kernel⟩
abbrev sCkendl : Stmt := top 15
theorem scCkendl : FnScope ["multipliers", "found", "number", "row"] ["multipliers"] (fnScope sCkendl) := ⟨rfl, rfl, rfl, by decide +kernel, rfl, by decide +kernel, by decide +kernel⟩
/-- rows whose first items are these words -/
def WordsIn (H : Hp) (a : Addr) (ws : List Str) : Prop := ∃ ds : List (List V), RowsIn H a ds ∧ ds.length = ws.length ∧ ∀ (i : Nat) (z : Str), ws[i]? = some z → ∃ r, ds[i]? = some (.str z :: r)
def partV (n i : Nat) : V := if i < n then .str "simple" else .str "multipliers"
def ixV (n i : Nat) : V := if i < n then .int (i : Nat) else .int ((i - n : Nat) : Nat)
def spTwice (C : Addr) : Sp := fun vs H Q E => ∃ (a c : Addr) (ws us : List Str), vs = [.ref a, .ref c] ∧ WordsIn H a ws ∧ WordsIn H c us ∧ ws.length + us.length ≤ 1000 ∧
  (∀ (i : Nat) (z : Str), (ws ++ us)[i]? = some z → ((ws ++ us).take i).Nodup → z ∈ (ws ++ us).take i → ∀ (d : Addr) (H' : Hp), Same H H' → H' d = some (.xd (badFs (partV ws.length i) (ixV ws.length i) (.str "twice"))) → E (.ref C) (some d) H') ∧
  ((ws ++ us).Nodup → ∀ H', Same H H' → Q .non H')
theorem c_check_twice (Z : Zs mg) {C fI : Addr} {fdI : FuncData} (TB : BadK K mg C fI) (GB : FnOk P w K mg base CX0 1 fI fdI ["self", "part", "number", "reason"] (spBadI C)) (bB : Binds K fdI ["self", "part", "number", "reason"] [])
    {f : Addr} {fd : FuncData} (F : Def K mg "check_twice" sCktwice f fd) (b : Binds K fd ["simple", "multipliers"] []) : CalX P w K mg base 3 "check_twice" (spTwice C) := by
  refine calX0 F b scCktwice (fun vs H Q E h => ?_) (fun cdv A outer s H vs Q E hr h => ?_)
  · obtain ⟨a, c, ws, us, rfl, _⟩ := h
    rfl
  · obtain ⟨a, c, ws, us, rfl, hw, hu, hlen, kE, kQ⟩ := h
    refine ⟨_, pss_cons (ps_set (i := 2) scCktwice.nd rfl (Or.inl rfl) pe_dnewK)
      (pss_one (ps_for (passes_of rfl) rfl (kiT K (pe_tup (pa_cons (pe_tup (pa_cons pe_str (pa_cons (pv 0) pa_nil))) (pa_cons (pe_tup (pa_cons pe_str (pa_cons (pv 1) pa_nil))) pa_nil)))) (kgTup K (n := 2) rfl (pgs_cons (pg_name (i := 3) scCktwice.nd rfl (Or.inl rfl)) (pgs_cons (pg_name (i := 4) scCktwice.nd rfl (Or.inl rfl)) pgs_nil)))
        (pss_one (ps_for (passes_of rfl) rfl (kiEnum K (by rfl) Z.enumerate (pa_cons (pv 4) pa_nil)) (kgTup K (n := 2) rfl (pgs_cons (pg_name (i := 5) scCktwice.nd rfl (Or.inl rfl)) (pgs_cons (pg_name (i := 6) scCktwice.nd rfl (Or.inl rfl)) pgs_nil)))
        (pss_cons (ps_if (pt_cmp (pc_din (hu_of hr) (pe_ix (kIxA K) (pv 6) pe_int (fun _ _ => rfl)) (pv 2)))
        (pss_one (ps_raise rfl (takes_of rfl rfl rfl rfl) (pmk_oex TB.oex TB.iC TB.tI GB (hr.mono (by omega)) bB .nil pass0 rfl TB.gC (pa_cons (pv 3) (pa_cons (pv 5) (pa_cons pe_str pa_nil))))))
        (pss_nil))
      (pss_one (ps_dput (hu_of hr) (pv 2) (pe_ix (kIxA K) (pv 6) pe_int (fun _ _ => rfl)) pe_bl rfl))))))), ?_⟩
    walk_at "go"
    refine R.dnew fun d hd => ?_
    walk_at "rd"
    have inner : ∀ (pre cur : List Str) (pv : V) (x : Addr) (n5 n6 : Option V) (D : Ends) (H1 : Hp), pre.Nodup → pre.length + cur.length ≤ 1000 → WordsIn H x cur →
        (∀ (j : Nat) (z : Str), cur[j]? = some z → (pre ++ cur.take j).Nodup → z ∈ pre ++ cur.take j → ∀ (d' : Addr) (H' : Hp), Same H H' → H' d' = some (.xd (badFs pv (.int j) (.str "twice"))) → E (.ref C) (some d') H') →
        (∀ (q5 q6 : Option V) (H2 : Hp), Same H H2 → (∀ b o, b ≠ d → H1 b = some o → H2 b = some o) → H2 d = some (.dK (wordKs (pre ++ cur))) → (pre ++ cur).Nodup → D.nx [some (.ref a), some (.ref c), some (.ref d), some pv, some (.ref x), q5, q6] H2) →
        Same H H1 → H1 d = some (.dK (wordKs pre)) →
        tFor (iEnumA K (tCons (tVar 4) tNil)) (gTup K 2 (gCons (gName 5) (gCons (gName 6) gNil)))
          (tSeq
            (tIfS (tB (tDIn (tOp (rIxA K) (tVar 6) (tC (V.int 0))) (tVar 2)))
              (fun x σ H =>
                tMkO C (spBadI C) [] (tCons (tVar 3) (tCons (tVar 5) (tCons (tC (V.str (Str.ofString "twice"))) tNil)))
                  σ H fun cls d H' => E cls d H')
              tNext)
            (sDPut (tVar 2) (tOp (rIxA K) (tVar 6) (tC (V.int 0))) (tC (V.bl true)))) D [some (.ref a), some (.ref c), some (.ref d), some pv, some (.ref x), n5, n6] H1 := by
      intro pre cur pv x n5 n6 D H1 hpn hpl hwx hE hN s1 hd1
      obtain ⟨ds, ⟨xs, hxs, hxl, hrow⟩, hdl, hword⟩ := hwx
      walk_at "rd"
      refine for_enum (hxs.same s1) (fun i σ' H' => ∃ q5 q6, σ' = [some (.ref a), some (.ref c), some (.ref d), some pv, some (.ref x), q5, q6] ∧ Same H H' ∧ (∀ b o, b ≠ d → H1 b = some o → H' b = some o) ∧ H' d = some (.dK (wordKs (pre ++ cur.take i))) ∧ (pre ++ cur.take i).Nodup)
        ⟨n5, n6, rfl, s1, fun b o _ h => h, by rw [List.take_zero, List.append_nil]; exact hd1, by rw [List.take_zero, List.append_nil]; exact hpn⟩ ?_ ?_ ?_
      · rintro i σ' H' _ ⟨_, _, _, _, s2, _⟩ o h
        have hxd : x ≠ d := by
          rcases hxs with q | q
          · exact ne_of_none q hd
          · exact ne_of_none q hd
        exact s2 x o hxd h
      · rintro i y σ' H2 T hi ⟨q5, q6, rfl, s2, o2, hd2, hnd⟩ hT
        have hic : i < cur.length := by have := (List.getElem?_eq_some_iff.mp hi).1; omega
        have hz : cur[i]? = some cur[i] := List.getElem?_eq_getElem hic
        obtain ⟨r, hdr⟩ := hword i _ hz
        obtain ⟨b, hb, hbd⟩ := hrow i _ hdr
        rw [hb] at hi
        cases hi
        have s3 : Same H (upd H2 T (.tup [.int (i : Nat), .ref b])) := same_new s2 hT
        have o3 : ∀ b' o, b' ≠ d → H1 b' = some o → upd H2 T (.tup [V.int (i : Nat), .ref b]) b' = some o := fun b' o n h => by
          have := o2 b' o n h
          rw [upd_ne (ne_of_none this hT)]
          exact this
        have hTt : upd H2 T (.tup [V.int (i : Nat), .ref b]) T = some (.tup [.int (i : Nat), .ref b]) := upd_same
        have hd3 : upd H2 T (.tup [V.int (i : Nat), .ref b]) d = some (.dK (wordKs (pre ++ cur.take i))) := by rw [upd_ne (ne_of_none hd2 hT)]; exact hd2
        have hb3 := hbd.same s3
        have hl3 : (wordKs (pre ++ cur.take i)).length < sizeLine := small1000 (by unfold wordKs; rw [List.length_map, List.length_append, List.length_take]; omega)
        generalize upd H2 T (.tup [V.int (i : Nat), .ref b]) = H3 at s3 o3 hTt hb3 hd3 ⊢
        walk_at "rd"
        refine R.ixA hb3 (atI_nat (j := 0) rfl) ?_
        walk_at "rd"
        refine R.din hd3 ?_
        rw [wordKs_in]
        walk_at "rd"
        refine it (fun h1 => ?_) (fun h1 => ?_)
        · unfold tMkO
          walk_at "rd"
          exact r_bad fun d' H' s4 _ h => hE i _ hz hnd h1 d' H' (s3.trans s4) h
        · walk_at "rd"
          refine R.ixA hb3 (atI_nat (j := 0) rfl) ?_
          refine R.dput hd3 hl3 ?_
          have et : cur.take (i + 1) = cur.take i ++ [cur[i]] := by rw [List.take_add_one, hz]; rfl
          refine ⟨_, _, rfl, same_put s3 hd, fun b' o n h => by rw [upd_ne n]; exact o3 b' o n h, ?_, ?_⟩
          · rw [upd_same, wordKs_put _ _ h1, et, List.append_assoc]
          · rw [et, ← List.append_assoc]
            exact nodup_snoc hnd h1
      · rintro σ' H2 ⟨q5, q6, rfl, s2, o2, hd2, hnd⟩
        have exl : xs.length = cur.length := by omega
        rw [exl, List.take_of_length_le (Nat.le_refl _)] at hd2 hnd
        exact hN q5 q6 H2 s2 o2 hd2 hnd
    refine ⟨by decide, fun t1 ht1 => ?_⟩
    walk_at "rd"
    refine ⟨by decide, fun t2 ht2 => ?_⟩
    walk_at "rd"
    refine ⟨by decide, fun t3 ht3 => ?_⟩
    have dt1 : d ≠ t1 := (ne_new ht1).symm
    have ht1' : H t1 = none := free_new ht1
    have dt2 : d ≠ t2 := (ne_new (free_new ht2)).symm
    have t12 : t1 ≠ t2 := (ne_new ht2).symm
    have ht2' : H t2 = none := free_new (free_new ht2)
    have dt3 : d ≠ t3 := (ne_new (free_new (free_new ht3))).symm
    have t13 : t1 ≠ t3 := (ne_new (free_new ht3)).symm
    have t23 : t2 ≠ t3 := (ne_new ht3).symm
    have ht3' : H t3 = none := free_new (free_new (free_new ht3))
    have s0 : Same H (upd (upd (upd (upd H d (.dK [])) t1 (.tup [.str "simple", .ref a])) t2 (.tup [.str "multipliers", .ref c])) t3 (.tup [.ref t1, .ref t2])) :=
      same_put (same_put (same_put (same_put (Same.refl H) hd) ht1') ht2') ht3'
    have f1 : upd (upd (upd (upd H d (.dK [])) t1 (.tup [V.str "simple", .ref a])) t2 (.tup [V.str "multipliers", .ref c])) t3 (.tup [V.ref t1, .ref t2]) t1 = some (.tup [.str "simple", .ref a]) := by
      rw [upd_ne t13, upd_ne t12]; exact upd_same
    have f2 : upd (upd (upd (upd H d (.dK [])) t1 (.tup [V.str "simple", .ref a])) t2 (.tup [V.str "multipliers", .ref c])) t3 (.tup [V.ref t1, .ref t2]) t2 = some (.tup [.str "multipliers", .ref c]) := by
      rw [upd_ne t23]; exact upd_same
    have f3 : upd (upd (upd (upd H d (.dK [])) t1 (.tup [V.str "simple", .ref a])) t2 (.tup [V.str "multipliers", .ref c])) t3 (.tup [V.ref t1, .ref t2]) t3 = some (.tup [.ref t1, .ref t2]) := upd_same
    have fd : upd (upd (upd (upd H d (.dK [])) t1 (.tup [V.str "simple", .ref a])) t2 (.tup [V.str "multipliers", .ref c])) t3 (.tup [V.ref t1, .ref t2]) d = some (.dK (wordKs [])) := by
      rw [upd_ne dt3, upd_ne dt2, upd_ne dt1]; exact upd_same
    generalize upd (upd (upd (upd H d (.dK [])) t1 (.tup [V.str "simple", .ref a])) t2 (.tup [V.str "multipliers", .ref c])) t3 (.tup [V.ref t1, .ref t2]) = H0 at s0 f1 f2 f3 fd
    walk_at "rd"
    refine for_it (walk_tup (K := K) (a := t3) (xs := [V.ref t1, .ref t2])) (fun i σ' H' => ∃ q3 q4 q5 q6, σ' = [some (.ref a), some (.ref c), some (.ref d), q3, q4, q5, q6] ∧ Same H H' ∧ (∀ b o, b ≠ d → H0 b = some o → H' b = some o) ∧
      H' d = some (.dK (wordKs (if i = 0 then [] else if i = 1 then ws else ws ++ us))) ∧ (if i = 0 then [] else if i = 1 then ws else ws ++ us).Nodup)
      ⟨none, none, none, none, rfl, s0, fun b o _ h => h, fd, List.nodup_nil⟩ (fun i σ' H' _ hp => by obtain ⟨_, _, _, _, _, _, o1, _⟩ := hp; exact SqT.of (o1 _ _ dt3.symm f3)) ?_ ?_
    · rintro i x σ' H1 H1' hi ⟨q3, q4, q5, q6, rfl, s1, o1, hd1, hnd⟩ ⟨rfl, hx⟩
      have g1 := o1 _ _ dt1.symm f1
      have g2 := o1 _ _ dt2.symm f2
      match i, hi with
      | 0, _ =>
        cases hx
        refine R.gtup (SqT.of g1) rfl ?_
        refine R.gcons ?_
        refine R.gname ?_
        refine R.gcons ?_
        refine R.gname ?_
        refine R.gnil ?_
        dsimp only [List.set_cons_succ, List.set_cons_zero]
        refine inner [] ws (.str "simple") a q5 q6 _ _ List.nodup_nil (by show 0 + ws.length ≤ 1000; omega) hw (fun j z hz hn hm d' H' s4 h => ?_) (fun p5 p6 H2 s2 o2 hd2 hn2 => ?_) s1 hd1
        · rw [List.nil_append] at hn hm
          have hj : j < ws.length := (List.getElem?_eq_some_iff.mp hz).1
          refine kE j z (by rw [List.getElem?_append_left hj]; exact hz) ?_ ?_ d' H' s4 ?_
          · rw [List.take_append_of_le_length (by omega)]; exact hn
          · rw [List.take_append_of_le_length (by omega)]; exact hm
          · rw [h]
            unfold partV ixV
            rw [if_pos hj, if_pos hj]
        · exact ⟨_, _, _, _, rfl, s2, fun b o n h => o2 b o n (o1 b o n h), hd2, hn2⟩
      | 1, _ =>
        cases hx
        refine R.gtup (SqT.of g2) rfl ?_
        refine R.gcons ?_
        refine R.gname ?_
        refine R.gcons ?_
        refine R.gname ?_
        refine R.gnil ?_
        dsimp only [List.set_cons_succ, List.set_cons_zero]
        refine inner ws us (.str "multipliers") c q5 q6 _ _ hnd hlen hu (fun j z hz hn hm d' H' s4 h => ?_) (fun p5 p6 H2 s2 o2 hd2 hn2 => ?_) s1 hd1
        · have et : (ws ++ us).take (ws.length + j) = ws ++ us.take j := by
            rw [List.take_append, List.take_of_length_le (by omega)]
            congr 2
            omega
          refine kE (ws.length + j) z (by rw [List.getElem?_append_right (by omega)]; rw [show ws.length + j - ws.length = j by omega]; exact hz) (by rw [et]; exact hn) (by rw [et]; exact hm) d' H' s4 ?_
          rw [h]
          unfold partV ixV
          rw [if_neg (by omega), if_neg (by omega), show ws.length + j - ws.length = j by omega]
        · exact ⟨_, _, _, _, rfl, s2, fun b o n h => o2 b o n (o1 b o n h), hd2, hn2⟩
    · rintro σ' H1 ⟨q3, q4, q5, q6, rfl, s1, o1, hd1, hnd⟩
      exact kQ hnd H1 s1
/-- rows whose third items are these counts -/
def CountsIn (H : Hp) (a : Addr) (cs : List (Option Int)) : Prop := ∃ ds : List (List V), RowsIn H a ds ∧ ds.length = cs.length ∧ ∀ (i : Nat) (o : Option Int), cs[i]? = some o → ∃ d, ds[i]? = some d ∧ atI d 2 = some (ocnt o)
def spEndl (C : Addr) : Sp := fun vs H Q E => ∃ (c : Addr) (cs : List (Option Int)), vs = [.ref c] ∧ CountsIn H c cs ∧
  (∀ (i : Nat), cs[i]? = some none → ((cs.take i).filter Option.isNone).length = 1 → ∀ (d : Addr) (H' : Hp), Same H H' → H' d = some (.xd (badFs (.str "multipliers") (.int i) (.str "endless"))) → E (.ref C) (some d) H') ∧
  ((cs.filter Option.isNone).length ≤ 1 → ∀ H', Same H H' → Q .non H')
theorem c_check_endless (Z : Zs mg) {C fI : Addr} {fdI : FuncData} (TB : BadK K mg C fI) (GB : FnOk P w K mg base CX0 1 fI fdI ["self", "part", "number", "reason"] (spBadI C)) (bB : Binds K fdI ["self", "part", "number", "reason"] [])
    {f : Addr} {fd : FuncData} (F : Def K mg "check_endless" sCkendl f fd) (b : Binds K fd ["multipliers"] []) : CalX P w K mg base 3 "check_endless" (spEndl C) := by
  refine calX0 F b scCkendl (fun vs H Q E h => ?_) (fun cdv A outer s H vs Q E hr h => ?_)
  · obtain ⟨c, cs, rfl, _⟩ := h
    rfl
  · obtain ⟨c, cs, rfl, ⟨ds, ⟨xs, hxs, hxl, hrow⟩, hdl, hcnt⟩, kE, kQ⟩ := h
    refine ⟨_, pss_cons (ps_set (i := 1) scCkendl.nd rfl (Or.inl rfl) pe_bl)
      (pss_one (ps_for (passes_of rfl) rfl (kiEnum K (by rfl) Z.enumerate (pa_cons (pv 0) pa_nil)) (kgTup K (n := 2) rfl (pgs_cons (pg_name (i := 2) scCkendl.nd rfl (Or.inl rfl)) (pgs_cons (pg_name (i := 3) scCkendl.nd rfl (Or.inl rfl)) pgs_nil)))
        (pss_one (ps_if (pt_cmpR oIs (pe_ix (kIxA K) (pv 3) pe_int (fun _ _ => rfl)) pe_non (nomark _))
        (pss_cons (ps_if (pt_val (pv 1))
        (pss_one (ps_raise rfl (takes_of rfl rfl rfl rfl) (pmk_oex TB.oex TB.iC TB.tI GB (hr.mono (by omega)) bB .nil pass0 rfl TB.gC (pa_cons pe_str (pa_cons (pv 2) (pa_cons pe_str pa_nil))))))
        (pss_nil))
      (pss_one (ps_set (i := 1) scCkendl.nd rfl (Or.inl rfl) pe_bl)))
        (pss_nil))))), ?_⟩
    walk_at "go"
    refine for_enum hxs (fun i σ' H' => ∃ q2 q3, σ' = [some (.ref c), some (.bl (decide (((cs.take i).filter Option.isNone).length = 1))), q2, q3] ∧ Same H H' ∧ ((cs.take i).filter Option.isNone).length ≤ 1)
      ⟨none, none, rfl, Same.refl H, by rw [List.take_zero]; exact Nat.zero_le _⟩ (fun i σ' H' _ hp => by obtain ⟨_, _, _, s1, _⟩ := hp; exact fun o h => s1 _ _ h) ?_ ?_
    · rintro i y σ' H1 T hi ⟨q2, q3, rfl, s1, hle⟩ hT
      have hic : i < cs.length := by have := (List.getElem?_eq_some_iff.mp hi).1; omega
      have hz : cs[i]? = some cs[i] := List.getElem?_eq_getElem hic
      obtain ⟨d, hd, hd2⟩ := hcnt i _ hz
      obtain ⟨b, hb, hbd⟩ := hrow i _ hd
      rw [hb] at hi
      cases hi
      have s2 : Same H (upd H1 T (.tup [.int (i : Nat), .ref b])) := same_new s1 hT
      have hTt : upd H1 T (.tup [V.int (i : Nat), .ref b]) T = some (.tup [.int (i : Nat), .ref b]) := upd_same
      have hb2 := hbd.same s2
      have et : cs.take (i + 1) = cs.take i ++ [cs[i]] := by rw [List.take_add_one, hz]; rfl
      generalize upd H1 T (.tup [V.int (i : Nat), .ref b]) = H2 at s2 hTt hb2 ⊢
      walk_at "rd"
      refine it (fun h1 => ?_) (fun h1 => ?_)
      · have hn : cs[i] = none := by
          cases q : cs[i] with
          | none => rfl
          | some n => rw [q] at h1; exact absurd h1 (fun z => nomatch (show V.int n = V.non from z))
        rw [hn] at hz et
        walk_at "rd"
        refine it (fun h2 => ?_) (fun h2 => ?_)
        · unfold tMkO
          walk_at "rd"
          exact r_bad fun d' H' s4 _ h => kE i hz h2 d' H' (s2.trans s4) h
        · walk_at "rd"
          have e0 : ((cs.take i).filter Option.isNone).length = 0 := by omega
          have e1 : ((cs.take (i + 1)).filter Option.isNone).length = 1 := by
            rw [et, List.filter_append, List.length_append, e0]
            rfl
          refine ⟨some (.int (i : Nat)), some (.ref b), ?_, s2, by rw [e1]; exact Nat.le_refl _⟩
          rw [e1]
          rfl
      · walk_at "rd"
        have hn : cs[i].isNone = false := by
          cases q : cs[i] with
          | none => rw [q] at h1; exact absurd rfl h1
          | some n => rfl
        have e1 : (cs.take (i + 1)).filter Option.isNone = (cs.take i).filter Option.isNone := by
          rw [et, List.filter_append, List.filter_cons_of_neg (by rw [hn]; exact Bool.false_ne_true), List.filter_nil, List.append_nil]
        refine ⟨some (.int (i : Nat)), some (.ref b), ?_, s2, by rw [e1]; exact hle⟩
        rw [e1]
    · rintro σ' H1 ⟨q2, q3, rfl, s1, hle⟩
      rw [show xs.length = cs.length by omega, List.take_of_length_le (Nat.le_refl _)] at hle
      exact kQ hle H1 s1
end
end KN
end
section
set_option Elab.async false
set_option linter.all false
set_option maxRecDepth 100000
set_option maxHeartbeats 4000000
set_option pp.maxSteps 1500
set_option pp.deepTerms false
local macro_rules | `(tactic| walk_at "ne") => `(tactic| first
  | assumption | (apply Ne.symm; assumption)
  | exact R.ne_new (by assumption) | exact (R.ne_new (by assumption)).symm
  | exact L2.ne_of_none (by assumption) (by assumption) | exact (L2.ne_of_none (by assumption) (by assumption)).symm
  | exact L2.ne_of_none (by assumption) (R.free_new (by assumption)) | exact (L2.ne_of_none (by assumption) (R.free_new (by assumption))).symm)
local macro_rules | `(tactic| walk_at "at") => `(tactic| first
  | assumption | exact L2.upd_same
  | (refine R.sb (H := ?H) (p := ?p) ?e ?n ?h; (case e => assumption); (case n => walk_at "ne"); (case h => walk_at "at"))
  | (refine R.sm (H := ?H) ?e ?h; (case e => assumption); (case h => walk_at "at"))
  | (refine Eq.trans (L2.upd_ne ?_) ?_ <;> first | walk_at "ne" | walk_at "at"))
local macro_rules | `(tactic| walk_at "sqt") => `(tactic| first | assumption | (refine L2.SqT.of ?_; walk_at "at"))
local macro_rules | `(tactic| walk_at "ty") => `(tactic| first | exact R.tyN | exact R.tyB | exact R.tyI | exact R.tyS | (refine R.tyT (xs := ?xs) ?h; case h => walk_at "at") | (refine R.tyL (xs := ?xs) ?h; case h => walk_at "at"))
local macro_rules | `(tactic| walk_at "kit") => `(tactic| first | exact R.kit_NoneType_tuple | exact R.kit_NoneType_list | exact R.kit_NoneType_bool | exact R.kit_NoneType_str | exact R.kit_NoneType_int | exact R.kit_bool_tuple | exact R.kit_bool_list | exact R.kit_bool_bool | exact R.kit_bool_str | exact R.kit_bool_int | exact R.kit_int_tuple | exact R.kit_int_list | exact R.kit_int_bool | exact R.kit_int_str | exact R.kit_int_int | exact R.kit_str_tuple | exact R.kit_str_list | exact R.kit_str_bool | exact R.kit_str_str | exact R.kit_str_int | exact R.kit_tuple_tuple | exact R.kit_tuple_list | exact R.kit_tuple_bool | exact R.kit_tuple_str | exact R.kit_tuple_int | exact R.kit_list_tuple | exact R.kit_list_list | exact R.kit_list_bool | exact R.kit_list_str | exact R.kit_list_int)
local macro_rules | `(tactic| walk_at "sz") => `(tactic| first | assumption | (refine Nat.le_trans ?_ (show 1000 ≤ PySem.sizeLine by decide); omega) | decide)
local macro_rules | `(tactic| walk_at "szl") => `(tactic| first | assumption | exact Nat.le_of_lt (L2.small1000 (by omega)) | decide | decide +kernel)
local macro_rules | `(tactic| walk_at "sys") => `(tactic| first | assumption | exact KN.SysAt.same (by assumption) (by assumption))
local macro_rules | `(tactic| walk_at "dk") => `(tactic| first | exact R.rowsS _ _ | exact R.rowsM _ _)
local macro_rules | `(tactic| walk_at "sqa") => `(tactic| first | assumption | exact R.SeqA.same (by assumption) (by assumption) | exact R.SeqA.new (by assumption) (by assumption) | (exact Or.inl (by walk_at "at")) | (exact Or.inr (by walk_at "at")))
local macro_rules | `(tactic| walk_at "ix") => `(tactic| first | rfl | (exact L2.atI_nat (by assumption)) | assumption)
local macro_rules | `(tactic| walk_at "cond") => `(tactic| first
  | exact Or.inl (by decide) | exact Or.inr (by decide) | exact Or.inl ⟨by omega, by omega⟩ | exact Or.inr ⟨by omega, by omega⟩
  | (constructor <;> omega) | (show _ ≠ _; omega) | decide | omega)
local macro_rules | `(tactic| walk_at "r1") => `(tactic| first
  | ((with_reducible refine R.var (v := ?v) ?h ?q); case h => rfl)
  | with_reducible apply R.cons
  | with_reducible apply R.c
  | with_reducible apply R.nil
  | with_reducible apply R.op
  | with_reducible apply R.gname
  | with_reducible apply R.seq
  | with_reducible apply R.call
  | with_reducible apply R.asg
  | with_reducible apply R.ex
  | with_reducible apply R.tst
  | with_reducible apply R.i0
  | with_reducible apply R.ifs
  | with_reducible apply R.ret
  | with_reducible apply R.retN
  | with_reducible apply R.drop
  | with_reducible apply R.next
  | with_reducible apply R.tb_
  | with_reducible apply R.eqI
  | with_reducible apply R.neI
  | ((with_reducible refine R.ic ?_ ?_); · walk_at "cond")
  | with_reducible apply R.u0
  | with_reducible apply R.un
  | ((with_reducible refine R.eq ?_ ?_); · rfl)
  | ((with_reducible refine R.ne ?_ ?_); · rfl)
  | with_reducible apply R.and_
  | with_reducible apply R.or_
  | with_reducible apply R.not_
  | with_reducible apply R.ife
  | with_reducible apply R.chain
  | with_reducible apply R.cb
  | with_reducible apply R.bm
  | with_reducible apply R.gsub
  | with_reducible apply R.gnil
  | with_reducible apply R.gcons
  | with_reducible apply R.yes
  | with_reducible apply R.int1
  | ((with_reducible refine R.lenL (xs := ?xs) ?h ?q); case h => walk_at "at")
  | ((with_reducible refine R.ixL (xs := ?xs) (v := ?v) ?h ?e ?q); (case h => walk_at "at"); (case e => walk_at "ix"))
  | ((with_reducible refine R.setL (xs := ?xs) (n := ?n) ?h ?e ?q); (case h => walk_at "at"); (case e => rfl))
  | ((with_reducible refine R.append (xs := ?xs) ?h ?e ?q); (case h => walk_at "at"); (case e => walk_at "cond"))
  | with_reducible apply R.is_
  | with_reducible apply R.isnot
  | with_reducible apply R.andV
  | with_reducible apply R.orV
  | with_reducible apply R.notV
  | ((with_reducible refine R.isi (s := ?s) (b := ?b) ?ty ?h ?q); (case ty => walk_at "ty"); (case h => walk_at "kit"))
  | ((with_reducible refine R.addS ?h ?q); (case h => walk_at "sz"))
  | with_reducible apply R.max2
  | with_reducible apply R.min2
  | ((with_reducible refine R.lenStr ?h ?q); (case h => walk_at "szl"))
  | ((with_reducible refine R.ixS (n := ?n) ?h ?e ?q); (case h => walk_at "szl"); (case e => walk_at "ix"))
  | ((with_reducible refine R.tyl (xs := ?xs) ?h ?q); (case h => walk_at "at"))
  | with_reducible apply R.itlist
  | with_reducible apply R.ittup
  | with_reducible apply R.m1
  | with_reducible apply R.m1s
  | with_reducible apply R.leS
  | with_reducible apply R.itstr
  | with_reducible apply R.itstrE
  | with_reducible apply R.lc
  | with_reducible apply R.lc2
  | with_reducible apply R.ckw
  | with_reducible apply R.par
  | with_reducible apply R.parE
  | with_reducible apply R.itrev
  | with_reducible apply R.dsetd
  | with_reducible apply R.dnotin_
  | with_reducible apply R.for_
  | ((with_reducible refine R.all_ (bs := ?bs) ?h ?q); (case h => walk_at "at"))
  | with_reducible apply R.rng1
  | ((with_reducible refine R.rngE ?h ?q); (case h => (constructor <;> omega)))
  | ((with_reducible refine R.lenT (xs := ?xs) ?h ?q); (case h => walk_at "sqt"))
  | ((with_reducible refine R.ixT (xs := ?xs) (v := ?v) ?h ?e ?q); (case h => walk_at "sqt"); (case e => walk_at "ix"))
  | ((refine R.itlE (xs := ?xs) ?h ?q); (case h => walk_at "at"))
  | ((refine R.ittE (xs := ?xs) ?h ?q); (case h => walk_at "at"))
  | ((refine R.gseq (xs := ?xs) ?h ?e ?q); (case h => walk_at "sqa"); (case e => rfl))
  | ((refine R.ixA (xs := ?xs) (v := ?v) ?h ?e ?q); (case h => walk_at "sqa"); (case e => walk_at "ix"))
  | ((refine R.lenA (xs := ?xs) ?h ?q); (case h => walk_at "sqa"))
  | ((with_reducible refine R.gtup (xs := ?xs) ?h ?e ?q); (case h => walk_at "sqt"); (case e => rfl))
  | with_reducible apply R.din_
  | with_reducible apply R.dput_
  | with_reducible apply R.dget2_
  | ((with_reducible refine R.aug_ (x := ?x) ?h ?q); case h => rfl)
  | with_reducible apply R.ipI_
  | with_reducible apply R.rng2
  | ((with_reducible refine R.rngE2 ?h ?q); (case h => (refine ⟨?_, ?_, ?_, ?_⟩ <;> omega)))
  | with_reducible apply R.brk
  | with_reducible apply R.intB
  | with_reducible apply R.meth_
  | ((refine KN.methS (rs := ?rs) (ms := ?ms) ?h (fun _ _ _ _ => rfl) ?q); case h => walk_at "sys")
  | with_reducible apply R.sl_
  | with_reducible apply R.np_
  | with_reducible apply R.pt_
  | with_reducible apply R.ptE
  | with_reducible apply R.dget_
  | with_reducible apply R.revL_
  | ((refine R.dgetS (kvs := ?kvs) (v := ?v) ?h ?e ?q); (case h => walk_at "at"); (case e => walk_at "dk"))
  | with_reducible apply R.sfld
  | with_reducible apply R.fld_
  | with_reducible apply R.dc
  | with_reducible apply R.dget1_
  | with_reducible apply R.itseq
  | with_reducible apply R.itenum
  | with_reducible apply R.itT
  | with_reducible apply R.itF
  | with_reducible apply R.itNT
  | with_reducible apply R.itNF
  | (with_reducible apply R.tup)
  | (with_reducible apply R.lst))
local macro_rules | `(tactic| walk_at "rd") => `(tactic| (repeat (first | walk_at "r1" | (dsimp only [Int.reduceToNat, List.set_cons_succ, List.set_cons_zero, List.length_cons, List.length_nil, List.nil_append, List.cons_append, List.append_nil]))))
local macro_rules | `(tactic| walk_at "go") => `(tactic| (rw [R.start_eq]; dsimp only [R.startE, List.map_nil]; walk_at "rd"))
namespace KN
open PySem L2 SX R
open C8 (Cal Def cal0 pe_c pe_gc fnScope fnBody)
section
variable {P : Program} {w : World} {K : PySem.W.Frag} {mg : Str → Option Value} {base : Heap}
abbrev sSysI : Stmt := inClass (top 16) 0
theorem scSysI : FnScope ["self", "simple", "multipliers", "row", "word", "value"] ["self", "simple", "multipliers"] (defScope sSysI) := ⟨rfl, rfl, rfl, by decide +kernel, rfl, by decide +kernel, by decide +kernel⟩
/-- what stands of System, at S -/
structure SysK (K : PySem.W.Frag) (S : Addr) : Prop where
  cl : Cls K S
  nS : NoAttr K S "simple"
  nM : NoAttr K S "multipliers"
  nV : NoAttr K S "_values"
  nR : NoAttr K S "_rows"
structure GoodSys (rs : List SR) (ms : List MR) : Prop where
  s : ∀ r ∈ rs, GoodS r
  m : ∀ r ∈ ms, GoodM r
  nd : (rs.map (·.w) ++ ms.map (·.w)).Nodup
  sl : rs.length ≤ 24
  ml : ms.length ≤ 6
  one : (ms.filter fun r => r.c.isNone).length ≤ 1
def SRows (ds : List (List V)) (os : List (Option Str)) : Prop := os.length = ds.length ∧ ∀ (i : Nat) (d : List V) (o : Option Str), ds[i]? = some d → os[i]? = some o → SShape d ∧ o = sF d
def MRows (ds : List (List V)) (os : List (Option Str)) : Prop := os.length = ds.length ∧ ∀ (i : Nat) (d : List V) (o : Option Str), ds[i]? = some d → os[i]? = some o → MShape d o
/-- what is told of two lists that make no system -/
inductive Fault : List (List V) → List (List V) → V → V → V → Prop
  | many1 {ds es : List (List V)} {os : List (Option Str)} (h : SRows ds os) (l : 24 < ds.length) (l2 : ds.length ≤ 1000) : Fault ds es (.str "simple") .non (.str "many")
  | row1 {ds es : List (List V)} {os : List (Option Str)} (h : SRows ds os) (l : ds.length ≤ 24) {j : Nat} {r : Str} (hj : os[j]? = some (some r)) (ha : ∀ i, i < j → os[i]? = some none) : Fault ds es (.str "simple") (.int j) (.str r)
  | many2 {rs : List SR} {es : List (List V)} {os : List (Option Str)} (g : ∀ r ∈ rs, GoodS r) (gl : rs.length ≤ 24) (h : MRows es os) (l : 6 < es.length) (l2 : es.length ≤ 1000) : Fault (rs.map srV) es (.str "multipliers") .non (.str "many")
  | row2 {rs : List SR} {es : List (List V)} {os : List (Option Str)} (g : ∀ r ∈ rs, GoodS r) (gl : rs.length ≤ 24) (h : MRows es os) (l : es.length ≤ 6) {j : Nat} {r : Str} (hj : os[j]? = some (some r)) (ha : ∀ i, i < j → os[i]? = some none) :
      Fault (rs.map srV) es (.str "multipliers") (.int j) (.str r)
  | twice {rs : List SR} {ms : List MR} (g : ∀ r ∈ rs, GoodS r) (gl : rs.length ≤ 24) (gm : ∀ r ∈ ms, GoodM r) (ml : ms.length ≤ 6) {i : Nat} {z : Str} (hi : (rs.map (·.w) ++ ms.map (·.w))[i]? = some z)
      (hn : ((rs.map (·.w) ++ ms.map (·.w)).take i).Nodup) (hm : z ∈ (rs.map (·.w) ++ ms.map (·.w)).take i) : Fault (rs.map srV) (ms.map mrV) (partV rs.length i) (ixV rs.length i) (.str "twice")
  | endless {rs : List SR} {ms : List MR} (g : ∀ r ∈ rs, GoodS r) (gl : rs.length ≤ 24) (gm : ∀ r ∈ ms, GoodM r) (ml : ms.length ≤ 6) (hn : (rs.map (·.w) ++ ms.map (·.w)).Nodup) {i : Nat} (hi : (ms.map (·.c))[i]? = some none)
      (h1 : (((ms.map (·.c)).take i).filter Option.isNone).length = 1) : Fault (rs.map srV) (ms.map mrV) (.str "multipliers") (.int i) (.str "endless")
def sysFs (s m v r : Addr) : List (Str × V) := [("simple", .ref s), ("multipliers", .ref m), ("_values", .ref v), ("_rows", .ref r)]
/-- a system stands at x -/
def SysAt (S : Addr) (H : Hp) (x : Addr) (rs : List SR) (ms : List MR) : Prop := ∃ (dx s m v r : Addr) (xs ys : List V), H x = some (.ins S dx (sysFs s m v r)) ∧ H s = some (.tup xs) ∧ TupsAt H xs (rs.map srV) ∧ H m = some (.tup ys) ∧ TupsAt H ys (ms.map mrV) ∧
  H v = some (.dK (rs.map fun r => ((Sum.inr r.w : Key), V.int r.v))) ∧ H r = some (.dK (((ms.map (·.w)).zip ys).map fun q => ((Sum.inr q.1 : Key), q.2)))
theorem SysAt.same {S : Addr} {H H' : Hp} {x : Addr} {rs : List SR} {ms : List MR} (s : Same H H') (h : SysAt S H x rs ms) : SysAt S H' x rs ms := by
  obtain ⟨dx, a, m, v, r, xs, ys, h1, h2, h3, h4, h5, h6, h7⟩ := h
  exact ⟨dx, a, m, v, r, xs, ys, s _ _ h1, s _ _ h2, h3.keep (fun a d q => s _ _ q), s _ _ h4, h5.keep (fun a d q => s _ _ q), s _ _ h6, s _ _ h7⟩
def spSysI (S C : Addr) : Sp := fun vs H Q E => ∃ (x dx a c : Addr) (ds es : List (List V)), vs = [.ref x, .ref a, .ref c] ∧ H x = some (.ins S dx []) ∧ RowsIn H a ds ∧ RowsIn H c es ∧
  ((∃ p n r, Fault ds es p n r ∧ ∀ (d : Addr) (H' : Hp), Same H H' → H' d = some (.xd (badFs p n r)) → E (.ref C) (some d) H') ∨
   (∃ rs ms, ds = rs.map srV ∧ es = ms.map mrV ∧ GoodSys rs ms ∧ ∀ H' : Hp, SameBut x H H' → SysAt S H' x rs ms → Q .non H'))
theorem r_ck_many {C fS fM a f : Addr} {H : Hp} {Q : VK} {E : XK} {part : Str} {most : Int} {ds : List (List V)} {os : List (Option Str)} (hR : RowsIn H a ds) (kind : (f = fS ∧ SRows ds os) ∨ (f = fM ∧ MRows ds os)) (l : most < ds.length) (l2 : ds.length ≤ 1000)
    (k : ∀ (d : Addr) (H' : Hp), Same H H' → H' d = some (.xd (badFs (.str part) .non (.str "many"))) → E (.ref C) (some d) H') : spCheck C fS fM [.str part, .ref a, .int most, .ref f] H Q E := by
  refine ⟨part, a, f, most, ds, os, rfl, hR, ?_, ?_, l2, ?_, fun _ => k, fun z => absurd z (by omega), fun z => absurd z (by omega)⟩
  · rcases kind with ⟨h, _⟩ | ⟨h, _⟩
    · exact .inl h
    · exact .inr h
  · rcases kind with ⟨_, h, _⟩ | ⟨_, h, _⟩ <;> exact h
  · intro i d o h1 h2
    rcases kind with ⟨h, _, g⟩ | ⟨h, _, g⟩
    · exact .inl ⟨h, g i d o h1 h2⟩
    · exact .inr ⟨h, g i d o h1 h2⟩
theorem r_ck_row {C fS fM a f : Addr} {H : Hp} {Q : VK} {E : XK} {part : Str} {most : Int} {ds : List (List V)} {os : List (Option Str)} (hR : RowsIn H a ds) (kind : (f = fS ∧ SRows ds os) ∨ (f = fM ∧ MRows ds os)) (l : (ds.length : Int) ≤ most) (m1 : most ≤ 1000)
    {j : Nat} {r : Str} (hj : os[j]? = some (some r)) (ha : ∀ i, i < j → os[i]? = some none)
    (k : ∀ (d : Addr) (H' : Hp), Same H H' → H' d = some (.xd (badFs (.str part) (.int j) (.str r))) → E (.ref C) (some d) H') : spCheck C fS fM [.str part, .ref a, .int most, .ref f] H Q E := by
  have ol : os.length = ds.length := by rcases kind with ⟨_, h, _⟩ | ⟨_, h, _⟩ <;> exact h
  have hjl : j < os.length := (List.getElem?_eq_some_iff.mp hj).1
  refine ⟨part, a, f, most, ds, os, rfl, hR, ?_, ol, by omega, ?_, fun z => absurd z (by omega), fun _ j' r' hj' ha' d H' s1 e => ?_, fun _ z => ?_⟩
  · rcases kind with ⟨h, _⟩ | ⟨h, _⟩
    · exact .inl h
    · exact .inr h
  · intro i d o h1 h2
    rcases kind with ⟨h, _, g⟩ | ⟨h, _, g⟩
    · exact .inl ⟨h, g i d o h1 h2⟩
    · exact .inr ⟨h, g i d o h1 h2⟩
  · have ej : j' = j := by
      rcases Nat.lt_trichotomy j' j with q | q | q
      · rw [ha j' q] at hj'; cases hj'
      · exact q
      · rw [ha' j q] at hj; cases hj
    subst ej
    rw [hj] at hj'
    cases hj'
    exact k d H' s1 e
  · rw [z j (by omega)] at hj
    cases hj
theorem r_ck_ok {C fS fM a f : Addr} {H : Hp} {Q : VK} {E : XK} {part : Str} {most : Int} {ds : List (List V)} {os : List (Option Str)} (hR : RowsIn H a ds) (kind : (f = fS ∧ SRows ds os) ∨ (f = fM ∧ MRows ds os)) (l : (ds.length : Int) ≤ most) (m1 : most ≤ 1000)
    (hn : ∀ (i : Nat) (o : Option Str), os[i]? = some o → o = none) (k : ∀ H', Same H H' → Q .non H') : spCheck C fS fM [.str part, .ref a, .int most, .ref f] H Q E := by
  have ol : os.length = ds.length := by rcases kind with ⟨_, h, _⟩ | ⟨_, h, _⟩ <;> exact h
  refine ⟨part, a, f, most, ds, os, rfl, hR, ?_, ol, by omega, ?_, fun z => absurd z (by omega), fun _ j' r' hj' _ _ _ _ _ => ?_, fun _ _ => k⟩
  · rcases kind with ⟨h, _⟩ | ⟨h, _⟩
    · exact .inl h
    · exact .inr h
  · intro i d o h1 h2
    rcases kind with ⟨h, _, g⟩ | ⟨h, _, g⟩
    · exact .inl ⟨h, g i d o h1 h2⟩
    · exact .inr ⟨h, g i d o h1 h2⟩
  · have := hn _ _ hj'
    cases this
theorem len_good {z : Str} (h : GoodW z) : z.length ≤ 1000 := by
  obtain ⟨cs, rfl, h1, h2, _⟩ := h
  rw [S_len]; omega
theorem sfc_good {r : SR} (h : GoodS r) : sF (srV r) = none := by
  show sfc r.w r.v = none
  unfold sfc
  rw [if_pos (okW_of h.w), if_pos ⟨h.lo, h.hi⟩]
theorem mfc_good {m : MR} (h : GoodM m) : mfc m.w m.v m.c m.r = none := by
  unfold mfc
  have e1 : cOk m.c = true := by
    cases q : m.c with
    | none => rfl
    | some n => obtain ⟨a, b, _⟩ := h.c n q; exact decide_eq_true ⟨a, b⟩
  have e2 : lOk m.v m.r m.c = true := by
    cases q : m.c with
    | none => rfl
    | some n => obtain ⟨_, _, c⟩ := h.c n q; exact decide_eq_true c
  rw [if_pos (okW_of h.w), if_pos ⟨h.lo, h.hi⟩, if_pos e1, if_pos ⟨h.r0, h.r1⟩, if_pos e2]
theorem srows_good {rs : List SR} (g : ∀ r ∈ rs, GoodS r) : SRows (rs.map srV) (List.replicate rs.length none) := by
  refine ⟨by simp, fun i d o h1 h2 => ?_⟩
  rw [List.getElem?_map] at h1
  cases q : rs[i]? with
  | none => rw [q] at h1; cases h1
  | some r =>
    rw [q] at h1
    cases h1
    have hr := g r (List.mem_of_getElem? q)
    have ho : o = none := by
      have := List.mem_of_getElem? h2
      exact (List.mem_replicate.mp this).2
    subst ho
    exact ⟨.yes _ _ (len_good hr.w), (sfc_good hr).symm⟩
theorem mrows_good {ms : List MR} (g : ∀ r ∈ ms, GoodM r) : MRows (ms.map mrV) (List.replicate ms.length none) := by
  refine ⟨by simp, fun i d o h1 h2 => ?_⟩
  rw [List.getElem?_map] at h1
  cases q : ms[i]? with
  | none => rw [q] at h1; cases h1
  | some r =>
    rw [q] at h1
    cases h1
    have hr := g r (List.mem_of_getElem? q)
    have ho : o = none := by
      have := List.mem_of_getElem? h2
      exact (List.mem_replicate.mp this).2
    subst ho
    have z := MShape.yes r.w r.v r.c r.u r.r (len_good hr.w)
    rw [mfc_good hr] at z
    exact z
theorem rep_none {n : Nat} (i : Nat) (o : Option Str) (h : (List.replicate n (none : Option Str))[i]? = some o) : o = none := (List.mem_replicate.mp (List.mem_of_getElem? h)).2
theorem words_s {H : Hp} {a : Addr} {rs : List SR} (h : RowsIn H a (rs.map srV)) : WordsIn H a (rs.map (·.w)) := by
  refine ⟨_, h, by simp, fun i z e => ?_⟩
  rw [List.getElem?_map] at e
  cases q : rs[i]? with
  | none => rw [q] at e; cases e
  | some r => rw [q] at e; cases e; exact ⟨[.int r.v], by rw [List.getElem?_map, q]; rfl⟩
theorem words_m {H : Hp} {a : Addr} {ms : List MR} (h : RowsIn H a (ms.map mrV)) : WordsIn H a (ms.map (·.w)) := by
  refine ⟨_, h, by simp, fun i z e => ?_⟩
  rw [List.getElem?_map] at e
  cases q : ms[i]? with
  | none => rw [q] at e; cases e
  | some r => rw [q] at e; cases e; exact ⟨[.int r.v, ocnt r.c, .bl r.u, .int r.r], by rw [List.getElem?_map, q]; rfl⟩
theorem counts_m {H : Hp} {a : Addr} {ms : List MR} (h : RowsIn H a (ms.map mrV)) : CountsIn H a (ms.map (·.c)) := by
  refine ⟨_, h, by simp, fun i o e => ?_⟩
  rw [List.getElem?_map] at e
  cases q : ms[i]? with
  | none => rw [q] at e; cases e
  | some r => rw [q] at e; cases e; exact ⟨mrV r, by rw [List.getElem?_map, q]; rfl, rfl⟩
theorem none_two {cs : List (Option Int)} {i : Nat} (hi : cs[i]? = some none) (h1 : ((cs.take i).filter Option.isNone).length = 1) {j : Nat} (hj : i < j) : 2 ≤ ((cs.take j).filter Option.isNone).length := by
  have e1 : cs.take (i + 1) = cs.take i ++ [none] := by rw [List.take_add_one, hi]; rfl
  have e2 : (cs.take j).take (i + 1) = cs.take (i + 1) := by rw [List.take_take]; congr 1; omega
  have e3 : ((cs.take (i + 1)).filter Option.isNone).length = 2 := by
    rw [e1, List.filter_append, List.length_append, h1]
    rfl
  have sl : (cs.take (i + 1)).Sublist (cs.take j) := by rw [← e2]; exact List.take_sublist _ _
  have := (sl.filter Option.isNone).length_le
  omega
theorem none_all {cs : List (Option Int)} {i : Nat} (hi : cs[i]? = some none) (h1 : ((cs.take i).filter Option.isNone).length = 1) : ¬ (cs.filter Option.isNone).length ≤ 1 := fun h => by
  have hil := (List.getElem?_eq_some_iff.mp hi).1
  have := none_two hi h1 hil
  rw [List.take_length] at this
  omega
theorem none_count (ms : List MR) : ((ms.map (·.c)).filter Option.isNone).length = (ms.filter fun r => r.c.isNone).length := by
  rw [List.filter_map, List.length_map]
  rfl
theorem seqA_putI {H : Hp} {a x S dx : Addr} {xs : List V} {fs : List (Str × V)} {o : HO} (h : SeqA H a xs) (hx : H x = some (.ins S dx fs)) : SeqA (upd H x o) a xs := by
  rcases h with h | h
  · exact .inl (by rw [upd_ne (ne_of h hx (by intro z; cases z))]; exact h)
  · exact .inr (by rw [upd_ne (ne_of h hx (by intro z; cases z))]; exact h)
theorem RowsIn.putI {H : Hp} {a x S dx : Addr} {ds : List (List V)} {fs : List (Str × V)} {o : HO} (h : RowsIn H a ds) (hx : H x = some (.ins S dx fs)) : RowsIn (upd H x o) a ds := by
  obtain ⟨xs, h1, h2, h3⟩ := h
  exact ⟨xs, seqA_putI h1 hx, h2, fun i d e => let ⟨b, hb, hd⟩ := h3 i d e; ⟨b, hb, seqA_putI hd hx⟩⟩
theorem keep_ins {H : Hp} {x S dx : Addr} {fs : List (Str × V)} {o : HO} (hx : H x = some (.ins S dx fs)) : TupKeep H (upd H x o) := fun b d h => by
  rw [upd_ne (ne_of h hx (by intro z; cases z))]; exact h
theorem pf2 (u v : V) : putF "multipliers" v [("simple", u)] = ([("simple", u), ("multipliers", v)] : List (Str × V)) := by
  unfold putF; rw [if_neg (by decide +kernel)]; rfl
theorem pf3 (u v z : V) : putF "_values" z [("simple", u), ("multipliers", v)] = ([("simple", u), ("multipliers", v), ("_values", z)] : List (Str × V)) := by
  unfold putF; rw [if_neg (by decide +kernel)]; unfold putF; rw [if_neg (by decide +kernel)]; rfl
theorem pf4 (u v z y : V) : putF "_rows" y [("simple", u), ("multipliers", v), ("_values", z)] = ([("simple", u), ("multipliers", v), ("_values", z), ("_rows", y)] : List (Str × V)) := by
  unfold putF; rw [if_neg (by decide +kernel)]; unfold putF; rw [if_neg (by decide +kernel)]; unfold putF; rw [if_neg (by decide +kernel)]; rfl
theorem put_next {α : Type} (f : α → Key × V) (l : List α) (a : α) (h : (f a).1 ∉ l.map fun b => (f b).1) : putK (l.map f) (f a).1 (f a).2 = (l ++ [a]).map f := by
  have e : valV (l.map f) (f a).1 = none := by
    cases q : valV (l.map f) (f a).1 with
    | none => rfl
    | some v =>
      have := valV_in q
      rw [List.map_map] at this
      exact absurd this h
  rw [putK_new _ e, List.map_append]
  rfl
theorem not_before {α β : Type} {g : α → β} {l : List α} (hn : (l.map g).Nodup) {i : Nat} {a : α} (h : l[i]? = some a) : g a ∉ (l.take i).map g := fun hm => by
  have e : l.take (i + 1) = l.take i ++ [a] := by rw [List.take_add_one, h]; rfl
  have n2 : ((l.take (i + 1)).map g).Nodup := hn.sublist ((List.take_sublist _ _).map g)
  rw [e, List.map_append, List.nodup_append] at n2
  exact n2.2.2 _ hm _ (by simp) rfl
theorem ok_sysI (Z : Zs mg) (CC : Cs mg) {S C fS fM : Addr} (TS : SysK K S) (g_simple_fault : ∃ u, mg "simple_fault" = some u ∧ RelV (.ref fS) u) (g_multiplier_fault : ∃ u, mg "multiplier_fault" = some u ∧ RelV (.ref fM) u)
    (c_check_rows : CalX P w K mg base 3 "check_rows" (spCheck C fS fM)) (c_check_twice : CalX P w K mg base 3 "check_twice" (spTwice C)) (c_check_endless : CalX P w K mg base 3 "check_endless" (spEndl C))
    {f : Addr} {fd : FuncData} (F : Fun K "__init__" "System.__init__" sSysI f fd) : FnOk P w K mg base (L2.CX P w) 4 f fd ["self", "simple", "multipliers"] (spSysI S C) := by
  refine F.okX scSysI (fun vs H Q E h => ?_) (fun cdv A outer s H vs Q E hr h => ?_)
  · obtain ⟨x, dx, a, c, ds, es, rfl, _⟩ := h
    rfl
  · obtain ⟨x, dx, a, c, ds, es, rfl, hx, hA, hC, h⟩ := h
    refine ⟨_, pss_cons (ps_expr (pe_cx c_check_rows hr (by omega) (takes_of rfl rfl rfl rfl) (by rfl) (pa_cons pe_str (pa_cons (pv 1) (pa_cons (pe_gc (by rfl) CC.MOST_SIMPLE) (pa_cons (pe_gc (by rfl) g_simple_fault) pa_nil))))))
      (pss_cons (ps_expr (pe_cx c_check_rows hr (by omega) (takes_of rfl rfl rfl rfl) (by rfl) (pa_cons pe_str (pa_cons (pv 2) (pa_cons (pe_gc (by rfl) CC.MOST_MULTIPLIERS) (pa_cons (pe_gc (by rfl) g_multiplier_fault) pa_nil))))))
      (pss_cons (ps_expr (pe_cx c_check_twice hr (by omega) (takes_of rfl rfl rfl rfl) (by rfl) (pa_cons (pv 1) (pa_cons (pv 2) pa_nil))))
      (pss_cons (ps_expr (pe_cx c_check_endless hr (by omega) (takes_of rfl rfl rfl rfl) (by rfl) (pa_cons (pv 2) pa_nil)))
      (pss_cons (kFldS K (ps_fld (pv 0) (pe_callTy (kTuple K) (by rfl) Z.tuple (by decide +kernel) (pa_cons (pe_lc (own := [("row", 3)]) (g := gName 3) (tt := tYes) rfl scSysI.nd (kiSeq K (pv 1)) (blkOk_by (own := [("row", 3)]) (N := ["self", "simple", "multipliers", "row", "word", "value"]) (sc := defScope sSysI) (by decide +kernel)) (fun _ _ _ _ _ => (pg_name (i := 3) scSysI.nd rfl (Or.inl rfl))) (fun _ _ _ _ _ => pts_nil) (fun _ _ _ _ _ => pe_callTy (kTuple K) (by rfl) Z.tuple (by decide +kernel) (pa_cons (pv 3) pa_nil))) pa_nil)) rfl))
      (pss_cons (kFldS K (ps_fld (pv 0) (pe_callTy (kTuple K) (by rfl) Z.tuple (by decide +kernel) (pa_cons (pe_lc (own := [("row", 3)]) (g := gName 3) (tt := tYes) rfl scSysI.nd (kiSeq K (pv 2)) (blkOk_by (own := [("row", 3)]) (N := ["self", "simple", "multipliers", "row", "word", "value"]) (sc := defScope sSysI) (by decide +kernel)) (fun _ _ _ _ _ => (pg_name (i := 3) scSysI.nd rfl (Or.inl rfl))) (fun _ _ _ _ _ => pts_nil) (fun _ _ _ _ _ => pe_callTy (kTuple K) (by rfl) Z.tuple (by decide +kernel) (pa_cons (pv 3) pa_nil))) pa_nil)) rfl))
      (pss_cons (kFldS K (ps_fld (pv 0) (pe_dc (own := [("word", 4), ("value", 5)]) (tt := tYes) rfl scSysI.nd (kiT K (kFld K (pv 0))) (blkOk_by (own := [("word", 4), ("value", 5)]) (N := ["self", "simple", "multipliers", "row", "word", "value"]) (sc := defScope sSysI) (by decide +kernel)) (fun _ _ _ _ _ => (kgTup K (n := 2) rfl (pgs_cons (pg_name (i := 4) scSysI.nd rfl (Or.inl rfl)) (pgs_cons (pg_name (i := 5) scSysI.nd rfl (Or.inl rfl)) pgs_nil)))) (fun _ _ _ _ _ => pts_nil) (fun _ _ _ _ _ => pv 4) (fun _ _ _ _ _ => pv 5)) rfl))
      (pss_one (kFldS K (ps_fld (pv 0) (pe_dc (own := [("row", 3)]) (tt := tYes) rfl scSysI.nd (kiT K (kFld K (pv 0))) (blkOk_by (own := [("row", 3)]) (N := ["self", "simple", "multipliers", "row", "word", "value"]) (sc := defScope sSysI) (by decide +kernel)) (fun _ _ _ _ _ => (pg_name (i := 3) scSysI.nd rfl (Or.inl rfl))) (fun _ _ _ _ _ => pts_nil) (fun _ _ _ _ _ => pe_ix (kIxA K) (pv 3) pe_int (fun _ _ => rfl)) (fun _ _ _ _ _ => pv 3)) rfl))))))))), ?_⟩
    walk_at "go"
    rcases h with ⟨p, n, r, hf, kE⟩ | ⟨rs, ms, rfl, rfl, hg, kQ⟩
    · cases hf with
      | many1 h l l2 => exact r_ck_many hA (.inl ⟨rfl, h⟩) (by omega) l2 kE
      | row1 h l hj ha => exact r_ck_row hA (.inl ⟨rfl, h⟩) (by omega) (by decide) hj ha kE
      | @many2 rs es os g gl h l l2 =>
        refine r_ck_ok hA (.inl ⟨rfl, srows_good g⟩) (by rw [List.length_map]; omega) (by decide) rep_none fun H1 s1 => ?_
        walk_at "rd"
        exact r_ck_many (hC.same s1) (.inr ⟨rfl, h⟩) (by omega) l2 fun d H' s2 e => kE d H' (s1.trans s2) e
      | @row2 rs es os g gl h l j r hj ha =>
        refine r_ck_ok hA (.inl ⟨rfl, srows_good g⟩) (by rw [List.length_map]; omega) (by decide) rep_none fun H1 s1 => ?_
        walk_at "rd"
        exact r_ck_row (hC.same s1) (.inr ⟨rfl, h⟩) (by omega) (by decide) hj ha fun d H' s2 e => kE d H' (s1.trans s2) e
      | @twice rs ms g gl gm ml i z hi hn hm =>
        refine r_ck_ok hA (.inl ⟨rfl, srows_good g⟩) (by rw [List.length_map]; omega) (by decide) rep_none fun H1 s1 => ?_
        walk_at "rd"
        refine r_ck_ok (hC.same s1) (.inr ⟨rfl, mrows_good gm⟩) (by rw [List.length_map]; omega) (by decide) rep_none fun H2 s2 => ?_
        walk_at "rd"
        refine ⟨a, c, rs.map (·.w), ms.map (·.w), rfl, words_s (hA.same (s1.trans s2)), words_m (hC.same (s1.trans s2)), by rw [List.length_map, List.length_map]; omega, fun i' z' hi' hn' hm' d H' s3 e => ?_, fun hnd => ?_⟩
        · have ei : i' = i := by
            have key : ∀ (u v : Nat) (y : Str), u < v → (rs.map (·.w) ++ ms.map (·.w))[u]? = some y → y ∈ (rs.map (·.w) ++ ms.map (·.w)).take u → ¬ ((rs.map (·.w) ++ ms.map (·.w)).take v).Nodup := fun u v y huv hu hy hnd => by
              have e1 : (rs.map (·.w) ++ ms.map (·.w)).take (u + 1) = (rs.map (·.w) ++ ms.map (·.w)).take u ++ [y] := by rw [List.take_add_one, hu]; rfl
              have e2 : ((rs.map (·.w) ++ ms.map (·.w)).take v).take (u + 1) = (rs.map (·.w) ++ ms.map (·.w)).take (u + 1) := by rw [List.take_take]; congr 1; omega
              have h3 : ((rs.map (·.w) ++ ms.map (·.w)).take (u + 1)).Nodup := by rw [← e2]; exact hnd.sublist (List.take_sublist _ _)
              rw [e1, List.nodup_append] at h3
              exact h3.2.2 y hy y (List.mem_singleton.mpr rfl) rfl
            rcases Nat.lt_trichotomy i' i with q | q | q
            · exact absurd hn (key i' i z' q hi' hm')
            · exact q
            · exact absurd hn' (key i i' z q hi hm)
          subst ei
          rw [List.length_map] at e
          exact kE d H' ((s1.trans s2).trans s3) e
        · have hil : i < (rs.map (·.w) ++ ms.map (·.w)).length := (List.getElem?_eq_some_iff.mp hi).1
          have e1 : (rs.map (·.w) ++ ms.map (·.w)).take (i + 1) = (rs.map (·.w) ++ ms.map (·.w)).take i ++ [z] := by rw [List.take_add_one, hi]; rfl
          have h3 : ((rs.map (·.w) ++ ms.map (·.w)).take (i + 1)).Nodup := hnd.sublist (List.take_sublist _ _)
          rw [e1, List.nodup_append] at h3
          exact absurd rfl (h3.2.2 z hm z (List.mem_singleton.mpr rfl))
      | @endless rs ms g gl gm ml hn i hi h1 =>
        refine r_ck_ok hA (.inl ⟨rfl, srows_good g⟩) (by rw [List.length_map]; omega) (by decide) rep_none fun H1 s1 => ?_
        walk_at "rd"
        refine r_ck_ok (hC.same s1) (.inr ⟨rfl, mrows_good gm⟩) (by rw [List.length_map]; omega) (by decide) rep_none fun H2 s2 => ?_
        walk_at "rd"
        refine ⟨a, c, rs.map (·.w), ms.map (·.w), rfl, words_s (hA.same (s1.trans s2)), words_m (hC.same (s1.trans s2)), by rw [List.length_map, List.length_map]; omega, fun i' z' hi' hn' hm' d H' s3 e => ?_, fun hnd H3 s3 => ?_⟩
        · have e1 : (rs.map (·.w) ++ ms.map (·.w)).take (i' + 1) = (rs.map (·.w) ++ ms.map (·.w)).take i' ++ [z'] := by rw [List.take_add_one, hi']; rfl
          have h3 : ((rs.map (·.w) ++ ms.map (·.w)).take (i' + 1)).Nodup := hn.sublist (List.take_sublist _ _)
          rw [e1, List.nodup_append] at h3
          exact absurd rfl (h3.2.2 z' hm' z' (List.mem_singleton.mpr rfl))
        · walk_at "rd"
          refine ⟨c, ms.map (·.c), rfl, counts_m (hC.same ((s1.trans s2).trans s3)), fun i' hi' h1' d H' s4 e => ?_, fun hle => ?_⟩
          · have ei : i' = i := by
              rcases Nat.lt_trichotomy i' i with q | q | q
              · have := none_two hi' h1' q
                omega
              · exact q
              · have := none_two hi h1 q
                omega
            subst ei
            exact kE d H' (((s1.trans s2).trans s3).trans s4) e
          · exact absurd hle (none_all hi h1)
    · refine r_ck_ok hA (.inl ⟨rfl, srows_good hg.s⟩) (by rw [List.length_map]; have := hg.sl; omega) (by decide) rep_none fun H1 s1 => ?_
      walk_at "rd"
      refine r_ck_ok (hC.same s1) (.inr ⟨rfl, mrows_good hg.m⟩) (by rw [List.length_map]; have := hg.ml; omega) (by decide) rep_none fun H2 s2 => ?_
      walk_at "rd"
      refine ⟨a, c, rs.map (·.w), ms.map (·.w), rfl, words_s (hA.same (s1.trans s2)), words_m (hC.same (s1.trans s2)), by rw [List.length_map, List.length_map]; have := hg.sl; have := hg.ml; omega, fun i' z' hi' hn' hm' d H' s3 e => ?_, fun hnd H3 s3 => ?_⟩
      · have e1 : (rs.map (·.w) ++ ms.map (·.w)).take (i' + 1) = (rs.map (·.w) ++ ms.map (·.w)).take i' ++ [z'] := by rw [List.take_add_one, hi']; rfl
        have h3 : ((rs.map (·.w) ++ ms.map (·.w)).take (i' + 1)).Nodup := hg.nd.sublist (List.take_sublist _ _)
        rw [e1, List.nodup_append] at h3
        exact absurd rfl (h3.2.2 z' hm' z' (List.mem_singleton.mpr rfl))
      · walk_at "rd"
        refine ⟨c, ms.map (·.c), rfl, counts_m (hC.same ((s1.trans s2).trans s3)), fun i' hi' h1' d H' s4 e => ?_, fun hle H4 s4' => ?_⟩
        · exact absurd (by rw [none_count]; exact hg.one) (none_all hi' h1')
        · have s4 : Same H H4 := ((s1.trans s2).trans s3).trans s4'
          have copy : ∀ (i : Nat) (y : Addr) (ds : List (List V)) (H5 : Hp) (Q' : VK), [some (V.ref x), some (.ref a), some (.ref c), none, none, none][i]? = some (some (.ref y)) → RowsIn H5 y ds → ds.length ≤ 100 →
              (∀ s xs H6, Same H5 H6 → H5 s = none → H6 s = some (.tup xs) → TupsAt H6 xs ds → Q' (.ref s) H6) →
              tCB (rTupS K) (tCons (tLc (iSeq K (tVar i)) (gName 3) tYes (tCB (rTupS K) (tCons (tVar 3) tNil)) (List.map (fun x => x.snd) [(Str.ofString "row", 3)])) tNil) [some (V.ref x), some (.ref a), some (.ref c), none, none, none] H5 Q' := by
            intro i y ds H5 Q' hi hR hdl kk
            obtain ⟨xs, hxs, hxl, hrow⟩ := hR
            walk_at "rd"
            refine ⟨_, hi, ?_⟩
            refine R.lc_seq hxs (fun D j H' => Same H5 H' ∧ ∃ acc, H' D = some (.lst acc) ∧ TupsAt H' acc (ds.take j)) (fun D hD => ⟨same_new (Same.refl _) hD, [], upd_same, .nil⟩) (fun D j H' _ hp => fun o h => hp.1 _ _ h) ?_ ?_
            · rintro D j v H' hD hj ⟨s5, acc, hacc, hts⟩
              have hjd : j < ds.length := by have := (List.getElem?_eq_some_iff.mp hj).1; omega
              have hdj : ds[j]? = some ds[j] := List.getElem?_eq_getElem hjd
              obtain ⟨b, hb, hbd⟩ := hrow j _ hdj
              rw [hb] at hj
              cases hj
              have hb5 := hbd.same s5
              have et : ds.take (j + 1) = ds.take j ++ [ds[j]] := by rw [List.take_add_one, hdj]; rfl
              have hal : acc.length < 1000 := by have := hts.len; rw [List.length_take] at this; omega
              refine R.gname ⟨rfl, ?_⟩
              walk_at "rd"
              refine R.tupA hb5 (fun l hl => ?_) (fun hbt => ?_)
              · have Dl : D ≠ l := ne_of_none hacc hl
                have hts2 : TupsAt (upd H' l (.tup ds[j])) acc (ds.take j) := hts.keep (keep_new hl)
                have hDl : upd H' l (.tup ds[j]) D = some (.lst acc) := by rw [upd_ne Dl]; exact hacc
                refine ⟨acc, hDl, small1000 (by omega), same_put (same_new s5 hl) hD, _, upd_same, ?_⟩
                rw [et]
                exact (hts2.keep (keep_list hDl)).snoc (keep_list hDl _ _ upd_same)
              · refine ⟨acc, hacc, small1000 (by omega), same_put s5 hD, _, upd_same, ?_⟩
                rw [et]
                exact (hts.keep (keep_list hacc)).snoc (keep_list hacc _ _ hbt)
            · rintro D H' hD ⟨s5, acc, hacc, hts⟩
              rw [hxl, List.take_of_length_le (Nat.le_refl _)] at hts
              walk_at "rd"
              refine R.tupL hacc fun l hl => ?_
              exact kk l acc _ (same_new s5 hl) (s5.free hl) upd_same (hts.keep (keep_new hl))
          walk_at "r1"
          walk_at "r1"
          dsimp only [List.map_nil]
          refine copy 1 a _ H4 _ rfl (hA.same s4) (by rw [List.length_map]; have := hg.sl; omega) fun s xs H5 s5 hs0 hs hts => ?_
          walk_at "rd"
          refine R.sfldE (s5 _ _ (s4 _ _ hx)) TS.cl TS.nS (by decide) ?_
          have hx5 := s5 _ _ (s4 _ _ hx)
          have sx : s ≠ x := ne_of hs hx5 (by intro z; cases z)
          have hx6 : upd H5 x (.ins S dx (putF "simple" (.ref s) [])) x = some (.ins S dx [("simple", .ref s)]) := upd_same
          have hs6 : upd H5 x (.ins S dx (putF "simple" (.ref s) [])) s = some (.tup xs) := by rw [upd_ne sx]; exact hs
          have hts6 : TupsAt (upd H5 x (.ins S dx (putF "simple" (.ref s) []))) xs (rs.map srV) := hts.keep (keep_ins hx5)
          have hC6 : RowsIn (upd H5 x (.ins S dx (putF "simple" (.ref s) []))) c (ms.map mrV) := (hC.same (s4.trans s5)).putI hx5
          have b6 : SameBut x H (upd H5 x (.ins S dx (putF "simple" (.ref s) []))) := (SameBut.of (s4.trans s5)).put
          generalize upd H5 x (.ins S dx (putF "simple" (.ref s) [])) = H6 at hx6 hs6 hts6 hC6 b6
          walk_at "r1"
          walk_at "r1"
          dsimp only [List.map_nil]
          refine copy 2 c _ H6 _ rfl hC6 (by rw [List.length_map]; have := hg.ml; omega) fun m ys H7 s7 hm0 hm hts7 => ?_
          have hx7 := s7 _ _ hx6
          have mx : m ≠ x := ne_of hm hx7 (by intro z; cases z)
          walk_at "rd"
          refine R.sfldE hx7 TS.cl TS.nM (by show 1 < 1000; decide) ?_
          rw [pf2]
          have hx8 : upd H7 x (.ins S dx [("simple", .ref s), ("multipliers", .ref m)]) x = some (.ins S dx [("simple", .ref s), ("multipliers", .ref m)]) := upd_same
          have hs8 : upd H7 x (.ins S dx [("simple", .ref s), ("multipliers", .ref m)]) s = some (.tup xs) := by rw [upd_ne sx]; exact s7 _ _ hs6
          have hm8 : upd H7 x (.ins S dx [("simple", .ref s), ("multipliers", .ref m)]) m = some (.tup ys) := by rw [upd_ne mx]; exact hm
          have ts8 : TupsAt (upd H7 x (.ins S dx [("simple", .ref s), ("multipliers", .ref m)])) xs (rs.map srV) := (hts6.keep fun a d h => s7 _ _ h).keep (keep_ins hx7)
          have tm8 : TupsAt (upd H7 x (.ins S dx [("simple", .ref s), ("multipliers", .ref m)])) ys (ms.map mrV) := hts7.keep (keep_ins hx7)
          have b8 : SameBut x H (upd H7 x (.ins S dx [("simple", .ref s), ("multipliers", .ref m)])) := (b6.trans (SameBut.of s7)).put
          generalize upd H7 x (.ins S dx [("simple", .ref s), ("multipliers", .ref m)]) = H8 at hx8 hs8 hm8 ts8 tm8 b8
          walk_at "rd"
          refine R.fldE hx8 TS.cl TS.nS rfl ?_
          walk_at "rd"
          intro D hD
          refine dc_tup (xs := xs) (fun i H' => Same H8 H' ∧ H' D = some (.dK ((rs.take i).map fun r => ((Sum.inr r.w : Key), V.int r.v)))) ⟨same_new (Same.refl _) hD, upd_same⟩ (fun i H' _ hp => SqT.of (hp.1 _ _ hs8)) ?_ ?_
          · rintro i v H' hi ⟨s9, hD9⟩
            have hxl : xs.length = rs.length := by have := ts8.len; rwa [List.length_map] at this
            have hir : i < rs.length := by have := (List.getElem?_eq_some_iff.mp hi).1; omega
            have hri : rs[i]? = some rs[i] := List.getElem?_eq_getElem hir
            obtain ⟨b, hb, hbt⟩ := ts8.get i (srV rs[i]) (by rw [List.getElem?_map, hri]; rfl)
            rw [hb] at hi
            cases hi
            have hb9 := s9 _ _ hbt
            refine R.gtup (xs := srV rs[i]) (SqT.of hb9) rfl ?_
            refine R.gcons ?_
            refine R.gname ?_
            refine R.gcons ?_
            refine R.gname ?_
            refine R.gnil ⟨rfl, ?_⟩
            walk_at "rd"
            have et : rs.take (i + 1) = rs.take i ++ [rs[i]] := by rw [List.take_add_one, hri]; rfl
            have nb : (Sum.inr rs[i].w : Key) ∉ (rs.take i).map fun r => (Sum.inr r.w : Key) := fun hm' => by
              obtain ⟨r', hr', er⟩ := List.mem_map.mp hm'
              have hnd2 : (rs.map (·.w)).Nodup := (List.nodup_append.mp hg.nd).1
              exact not_before hnd2 hri (List.mem_map.mpr ⟨r', hr', Sum.inr.inj er⟩)
            refine ⟨_, Sum.inr rs[i].w, rfl, hD9, small1000 (by rw [List.length_map, List.length_take]; have := hg.sl; omega), same_put s9 hD, ?_⟩
            rw [upd_same, et, put_next (fun r : SR => ((Sum.inr r.w : Key), V.int r.v)) (rs.take i) rs[i] nb]
          · rintro H9 ⟨s9, hD9⟩
            have hxl : xs.length = rs.length := by have := ts8.len; rwa [List.length_map] at this
            rw [hxl, List.take_of_length_le (Nat.le_refl _)] at hD9
            have hx9 := s9 _ _ hx8
            have Dx : D ≠ x := ne_of hD9 hx9 (by intro z; cases z)
            walk_at "rd"
            refine R.sfldE hx9 TS.cl TS.nV (by show 2 < 1000; decide) ?_
            rw [pf3]
            have hx10 : upd H9 x (.ins S dx [("simple", .ref s), ("multipliers", .ref m), ("_values", .ref D)]) x = some (.ins S dx [("simple", .ref s), ("multipliers", .ref m), ("_values", .ref D)]) := upd_same
            have hs10 : upd H9 x (.ins S dx [("simple", .ref s), ("multipliers", .ref m), ("_values", .ref D)]) s = some (.tup xs) := by rw [upd_ne sx]; exact s9 _ _ hs8
            have hm10 : upd H9 x (.ins S dx [("simple", .ref s), ("multipliers", .ref m), ("_values", .ref D)]) m = some (.tup ys) := by rw [upd_ne mx]; exact s9 _ _ hm8
            have hD10 : upd H9 x (.ins S dx [("simple", .ref s), ("multipliers", .ref m), ("_values", .ref D)]) D = some (.dK (rs.map fun r => ((Sum.inr r.w : Key), V.int r.v))) := by rw [upd_ne Dx]; exact hD9
            have ts10 : TupsAt (upd H9 x (.ins S dx [("simple", .ref s), ("multipliers", .ref m), ("_values", .ref D)])) xs (rs.map srV) := (ts8.keep fun a d h => s9 _ _ h).keep (keep_ins hx9)
            have tm10 : TupsAt (upd H9 x (.ins S dx [("simple", .ref s), ("multipliers", .ref m), ("_values", .ref D)])) ys (ms.map mrV) := (tm8.keep fun a d h => s9 _ _ h).keep (keep_ins hx9)
            have b10 : SameBut x H (upd H9 x (.ins S dx [("simple", .ref s), ("multipliers", .ref m), ("_values", .ref D)])) := (b8.trans (SameBut.of s9)).put
            generalize upd H9 x (.ins S dx [("simple", .ref s), ("multipliers", .ref m), ("_values", .ref D)]) = H10 at hx10 hs10 hm10 hD10 ts10 tm10 b10
            have hyl : ys.length = ms.length := by have := tm10.len; rwa [List.length_map] at this
            walk_at "rd"
            refine R.fldE hx10 TS.cl TS.nM rfl ?_
            walk_at "rd"
            intro D2 hD2
            refine dc_tup (xs := ys) (fun i H' => Same H10 H' ∧ H' D2 = some (.dK ((((ms.map (·.w)).zip ys).take i).map fun q => ((Sum.inr q.1 : Key), q.2)))) ⟨same_new (Same.refl _) hD2, upd_same⟩ (fun i H' _ hp => SqT.of (hp.1 _ _ hm10)) ?_ ?_
            · rintro i v H' hi ⟨s11, hD11⟩
              have hir : i < ms.length := by have := (List.getElem?_eq_some_iff.mp hi).1; omega
              have hri : ms[i]? = some ms[i] := List.getElem?_eq_getElem hir
              obtain ⟨b, hb, hbt⟩ := tm10.get i (mrV ms[i]) (by rw [List.getElem?_map, hri]; rfl)
              have hi0 := hi
              rw [hb] at hi
              cases hi
              have hb11 := s11 _ _ hbt
              have hz : ((ms.map (·.w)).zip ys)[i]? = some (ms[i].w, V.ref b) := List.getElem?_zip_eq_some.mpr ⟨by rw [List.getElem?_map, hri]; rfl, hi0⟩
              refine R.gname ⟨rfl, ?_⟩
              walk_at "rd"
              have et : ((ms.map (·.w)).zip ys).take (i + 1) = ((ms.map (·.w)).zip ys).take i ++ [(ms[i].w, V.ref b)] := by rw [List.take_add_one, hz]; rfl
              have hnd2 : (((ms.map (·.w)).zip ys).map Prod.fst).Nodup := by
                rw [List.map_fst_zip (by rw [List.length_map]; omega)]
                exact (List.nodup_append.mp hg.nd).2.1
              have nb : (Sum.inr ms[i].w : Key) ∉ (((ms.map (·.w)).zip ys).take i).map fun q => (Sum.inr q.1 : Key) := fun hm' => by
                obtain ⟨r', hr', er⟩ := List.mem_map.mp hm'
                exact not_before hnd2 hz (List.mem_map.mpr ⟨r', hr', Sum.inr.inj er⟩)
              refine ⟨_, Sum.inr ms[i].w, rfl, hD11, small1000 (by rw [List.length_map, List.length_take]; have := hg.ml; omega), same_put s11 hD2, ?_⟩
              rw [upd_same, et, put_next (fun q : Str × V => ((Sum.inr q.1 : Key), q.2)) _ (ms[i].w, V.ref b) nb]
            · rintro H11 ⟨s11, hD11⟩
              have hzl : ((ms.map (·.w)).zip ys).length = ys.length := by rw [List.length_zip, List.length_map]; omega
              rw [← hzl, List.take_of_length_le (Nat.le_refl _)] at hD11
              have hx11 := s11 _ _ hx10
              have D2x : D2 ≠ x := ne_of hD11 hx11 (by intro z; cases z)
              have DxD : D ≠ x := ne_of (s11 _ _ hD10) hx11 (by intro z; cases z)
              walk_at "rd"
              refine R.sfldE hx11 TS.cl TS.nR (by show 3 < 1000; decide) ?_
              rw [pf4]
              refine kQ _ (b10.trans (SameBut.of s11)).put ⟨dx, s, m, D, D2, xs, ys, upd_same, ?_, ?_, ?_, ?_, ?_, ?_⟩
              · rw [upd_ne sx]; exact s11 _ _ hs10
              · exact (ts10.keep fun a d h => s11 _ _ h).keep (keep_ins hx11)
              · rw [upd_ne mx]; exact s11 _ _ hm10
              · exact (tm10.keep fun a d h => s11 _ _ h).keep (keep_ins hx11)
              · rw [upd_ne DxD]; exact s11 _ _ hD10
              · rw [upd_ne D2x]; exact hD11
end
end KN
end
section
set_option Elab.async false
set_option linter.all false
set_option maxRecDepth 100000
set_option maxHeartbeats 4000000
set_option pp.maxSteps 1500
set_option pp.deepTerms false
local macro_rules | `(tactic| walk_at "ne") => `(tactic| first
  | assumption | (apply Ne.symm; assumption)
  | exact R.ne_new (by assumption) | exact (R.ne_new (by assumption)).symm
  | exact L2.ne_of_none (by assumption) (by assumption) | exact (L2.ne_of_none (by assumption) (by assumption)).symm
  | exact L2.ne_of_none (by assumption) (R.free_new (by assumption)) | exact (L2.ne_of_none (by assumption) (R.free_new (by assumption))).symm)
local macro_rules | `(tactic| walk_at "at") => `(tactic| first
  | assumption | exact L2.upd_same
  | (refine R.sb (H := ?H) (p := ?p) ?e ?n ?h; (case e => assumption); (case n => walk_at "ne"); (case h => walk_at "at"))
  | (refine R.sm (H := ?H) ?e ?h; (case e => assumption); (case h => walk_at "at"))
  | (refine Eq.trans (L2.upd_ne ?_) ?_ <;> first | walk_at "ne" | walk_at "at"))
local macro_rules | `(tactic| walk_at "sqt") => `(tactic| first | assumption | (refine L2.SqT.of ?_; walk_at "at"))
local macro_rules | `(tactic| walk_at "ty") => `(tactic| first | exact R.tyN | exact R.tyB | exact R.tyI | exact R.tyS | (refine R.tyT (xs := ?xs) ?h; case h => walk_at "at") | (refine R.tyL (xs := ?xs) ?h; case h => walk_at "at"))
local macro_rules | `(tactic| walk_at "kit") => `(tactic| first | exact R.kit_NoneType_tuple | exact R.kit_NoneType_list | exact R.kit_NoneType_bool | exact R.kit_NoneType_str | exact R.kit_NoneType_int | exact R.kit_bool_tuple | exact R.kit_bool_list | exact R.kit_bool_bool | exact R.kit_bool_str | exact R.kit_bool_int | exact R.kit_int_tuple | exact R.kit_int_list | exact R.kit_int_bool | exact R.kit_int_str | exact R.kit_int_int | exact R.kit_str_tuple | exact R.kit_str_list | exact R.kit_str_bool | exact R.kit_str_str | exact R.kit_str_int | exact R.kit_tuple_tuple | exact R.kit_tuple_list | exact R.kit_tuple_bool | exact R.kit_tuple_str | exact R.kit_tuple_int | exact R.kit_list_tuple | exact R.kit_list_list | exact R.kit_list_bool | exact R.kit_list_str | exact R.kit_list_int)
local macro_rules | `(tactic| walk_at "sz") => `(tactic| first | assumption | (refine Nat.le_trans ?_ (show 1000 ≤ PySem.sizeLine by decide); omega) | decide)
local macro_rules | `(tactic| walk_at "szl") => `(tactic| first | assumption | exact Nat.le_of_lt (L2.small1000 (by omega)) | decide | decide +kernel)
local macro_rules | `(tactic| walk_at "sys") => `(tactic| first | assumption | exact KN.SysAt.same (by assumption) (by assumption))
local macro_rules | `(tactic| walk_at "dk") => `(tactic| first | exact R.rowsS _ _ | exact R.rowsM _ _)
local macro_rules | `(tactic| walk_at "sqa") => `(tactic| first | assumption | exact R.SeqA.same (by assumption) (by assumption) | exact R.SeqA.new (by assumption) (by assumption) | (exact Or.inl (by walk_at "at")) | (exact Or.inr (by walk_at "at")))
local macro_rules | `(tactic| walk_at "ix") => `(tactic| first | rfl | (exact L2.atI_nat (by assumption)) | assumption)
local macro_rules | `(tactic| walk_at "cond") => `(tactic| first
  | exact Or.inl (by decide) | exact Or.inr (by decide) | exact Or.inl ⟨by omega, by omega⟩ | exact Or.inr ⟨by omega, by omega⟩
  | (constructor <;> omega) | (show _ ≠ _; omega) | decide | omega)
local macro_rules | `(tactic| walk_at "r1") => `(tactic| first
  | ((with_reducible refine R.var (v := ?v) ?h ?q); case h => rfl)
  | with_reducible apply R.cons
  | with_reducible apply R.c
  | with_reducible apply R.nil
  | with_reducible apply R.op
  | with_reducible apply R.gname
  | with_reducible apply R.seq
  | with_reducible apply R.call
  | with_reducible apply R.asg
  | with_reducible apply R.ex
  | with_reducible apply R.tst
  | with_reducible apply R.i0
  | with_reducible apply R.ifs
  | with_reducible apply R.ret
  | with_reducible apply R.retN
  | with_reducible apply R.drop
  | with_reducible apply R.next
  | with_reducible apply R.tb_
  | with_reducible apply R.eqI
  | with_reducible apply R.neI
  | ((with_reducible refine R.ic ?_ ?_); · walk_at "cond")
  | with_reducible apply R.u0
  | with_reducible apply R.un
  | ((with_reducible refine R.eq ?_ ?_); · rfl)
  | ((with_reducible refine R.ne ?_ ?_); · rfl)
  | with_reducible apply R.and_
  | with_reducible apply R.or_
  | with_reducible apply R.not_
  | with_reducible apply R.ife
  | with_reducible apply R.chain
  | with_reducible apply R.cb
  | with_reducible apply R.bm
  | with_reducible apply R.gsub
  | with_reducible apply R.gnil
  | with_reducible apply R.gcons
  | with_reducible apply R.yes
  | with_reducible apply R.int1
  | ((with_reducible refine R.lenL (xs := ?xs) ?h ?q); case h => walk_at "at")
  | ((with_reducible refine R.ixL (xs := ?xs) (v := ?v) ?h ?e ?q); (case h => walk_at "at"); (case e => walk_at "ix"))
  | ((with_reducible refine R.setL (xs := ?xs) (n := ?n) ?h ?e ?q); (case h => walk_at "at"); (case e => rfl))
  | ((with_reducible refine R.append (xs := ?xs) ?h ?e ?q); (case h => walk_at "at"); (case e => walk_at "cond"))
  | with_reducible apply R.is_
  | with_reducible apply R.isnot
  | with_reducible apply R.andV
  | with_reducible apply R.orV
  | with_reducible apply R.notV
  | ((with_reducible refine R.isi (s := ?s) (b := ?b) ?ty ?h ?q); (case ty => walk_at "ty"); (case h => walk_at "kit"))
  | ((with_reducible refine R.addS ?h ?q); (case h => walk_at "sz"))
  | with_reducible apply R.max2
  | with_reducible apply R.min2
  | ((with_reducible refine R.lenStr ?h ?q); (case h => walk_at "szl"))
  | ((with_reducible refine R.ixS (n := ?n) ?h ?e ?q); (case h => walk_at "szl"); (case e => walk_at "ix"))
  | ((with_reducible refine R.tyl (xs := ?xs) ?h ?q); (case h => walk_at "at"))
  | with_reducible apply R.itlist
  | with_reducible apply R.ittup
  | with_reducible apply R.m1
  | with_reducible apply R.m1s
  | with_reducible apply R.leS
  | with_reducible apply R.itstr
  | with_reducible apply R.itstrE
  | with_reducible apply R.lc
  | with_reducible apply R.lc2
  | with_reducible apply R.ckw
  | with_reducible apply R.par
  | with_reducible apply R.parE
  | with_reducible apply R.itrev
  | with_reducible apply R.dsetd
  | with_reducible apply R.dnotin_
  | with_reducible apply R.for_
  | ((with_reducible refine R.all_ (bs := ?bs) ?h ?q); (case h => walk_at "at"))
  | with_reducible apply R.rng1
  | ((with_reducible refine R.rngE ?h ?q); (case h => (constructor <;> omega)))
  | ((with_reducible refine R.lenT (xs := ?xs) ?h ?q); (case h => walk_at "sqt"))
  | ((with_reducible refine R.ixT (xs := ?xs) (v := ?v) ?h ?e ?q); (case h => walk_at "sqt"); (case e => walk_at "ix"))
  | ((refine R.itlE (xs := ?xs) ?h ?q); (case h => walk_at "at"))
  | ((refine R.ittE (xs := ?xs) ?h ?q); (case h => walk_at "at"))
  | ((refine R.gseq (xs := ?xs) ?h ?e ?q); (case h => walk_at "sqa"); (case e => rfl))
  | ((refine R.ixA (xs := ?xs) (v := ?v) ?h ?e ?q); (case h => walk_at "sqa"); (case e => walk_at "ix"))
  | ((refine R.lenA (xs := ?xs) ?h ?q); (case h => walk_at "sqa"))
  | ((with_reducible refine R.gtup (xs := ?xs) ?h ?e ?q); (case h => walk_at "sqt"); (case e => rfl))
  | with_reducible apply R.din_
  | with_reducible apply R.dput_
  | with_reducible apply R.dget2_
  | ((with_reducible refine R.aug_ (x := ?x) ?h ?q); case h => rfl)
  | with_reducible apply R.ipI_
  | with_reducible apply R.rng2
  | ((with_reducible refine R.rngE2 ?h ?q); (case h => (refine ⟨?_, ?_, ?_, ?_⟩ <;> omega)))
  | with_reducible apply R.brk
  | with_reducible apply R.intB
  | with_reducible apply R.meth_
  | ((refine KN.methS (rs := ?rs) (ms := ?ms) ?h (fun _ _ _ _ => rfl) ?q); case h => walk_at "sys")
  | with_reducible apply R.sl_
  | with_reducible apply R.np_
  | with_reducible apply R.pt_
  | with_reducible apply R.ptE
  | with_reducible apply R.dget_
  | with_reducible apply R.revL_
  | ((refine R.dgetS (kvs := ?kvs) (v := ?v) ?h ?e ?q); (case h => walk_at "at"); (case e => walk_at "dk"))
  | with_reducible apply R.sfld
  | with_reducible apply R.fld_
  | with_reducible apply R.dc
  | with_reducible apply R.dget1_
  | with_reducible apply R.itseq
  | with_reducible apply R.itenum
  | with_reducible apply R.itT
  | with_reducible apply R.itF
  | with_reducible apply R.itNT
  | with_reducible apply R.itNF
  | (with_reducible apply R.tup)
  | (with_reducible apply R.lst))
local macro_rules | `(tactic| walk_at "rd") => `(tactic| (repeat (first | walk_at "r1" | (dsimp only [Int.reduceToNat, List.set_cons_succ, List.set_cons_zero, List.length_cons, List.length_nil, List.nil_append, List.cons_append, List.append_nil]))))
local macro_rules | `(tactic| walk_at "go") => `(tactic| (rw [R.start_eq]; dsimp only [R.startE, List.map_nil]; walk_at "rd"))
namespace KN
open PySem L2 SX R
open C8 (Cal Def cal0 pe_c pe_gc fnScope fnBody Met met0)
section
variable {P : Program} {w : World} {K : PySem.W.Frag} {mg : Str → Option Value} {base : Heap}
abbrev sSysW : Stmt := inClass (top 16) 1
abbrev sSysV : Stmt := inClass (top 16) 2
theorem scSysV : FnScope ["self", "word"] ["self", "word"] (fnScope sSysV) := ⟨rfl, rfl, rfl, by decide +kernel, rfl, by decide +kernel, by decide +kernel⟩
abbrev sSysM : Stmt := inClass (top 16) 3
theorem scSysM : FnScope ["self", "word"] ["self", "word"] (fnScope sSysM) := ⟨rfl, rfl, rfl, by decide +kernel, rfl, by decide +kernel, by decide +kernel⟩
abbrev sSysE : Stmt := inClass (top 16) 4
theorem valV_at {κ : Type} [DecidableEq κ] : ∀ {l : List (κ × V)} {k : κ} {v : V}, (l.map (·.1)).Nodup → (k, v) ∈ l → valV l k = some v
  | [], _, _, _, h => by cases h
  | p :: l, k, v, hn, h => by
    obtain ⟨h1, h2⟩ := List.nodup_cons.mp hn
    rcases List.mem_cons.mp h with q | q
    · subst q; exact valV_pos rfl
    · have : ¬ p.1 = k := fun e => h1 (List.mem_map.mpr ⟨(k, v), q, e.symm⟩)
      rw [valV_neg this]
      exact valV_at h2 q
theorem valV_off {κ : Type} [DecidableEq κ] {l : List (κ × V)} {k : κ} (h : k ∉ l.map (·.1)) : valV l k = none := by
  cases q : valV l k with
  | none => rfl
  | some v => exact absurd (valV_in q) h
def svOf (rs : List SR) (z : Str) : V := (valV (rs.map fun r => ((Sum.inr r.w : Key), V.int r.v)) (Sum.inr z : Key)).getD .non
def spSv (S : Addr) : Sp := fun vs H Q _ => ∃ (x : Addr) (z : Str) (rs : List SR) (ms : List MR), vs = [.ref x, .str z] ∧ SysAt S H x rs ms ∧ Q (svOf rs z) H
theorem m_simple_value {S : Addr} (TS : SysK K S) {f : Addr} {fd : FuncData} (me : Meth K S "simple_value" f) (F : C8.Fun K "simple_value" "System.simple_value" sSysV f fd) (b : Binds K fd ["self", "word"] []) : Met P w K mg base 1 S "simple_value" (spSv S) [] := by
  refine met0 TS.cl me F b scSysV (fun vs H Q E h => ?_) (fun cdv A outer s H vs Q E hr h => ?_)
  · obtain ⟨x, z, rs, ms, rfl, _⟩ := h
    rfl
  · obtain ⟨x, z, rs, ms, rfl, ⟨dx, s, m, v, r, xs, ys, hx, hs, hts, hm, htm, hv, hrr⟩, k⟩ := h
    refine ⟨_, pss_one (ps_ret (pe_dget1 (hu_of hr) (kFld K (pv 0)) (pv 1) ⟨by rfl, by rfl, by rfl, by rfl⟩)), ?_⟩
    walk_at "go"
    refine R.fldE hx TS.cl TS.nV rfl ?_
    refine R.dgetE hv ?_
    walk_at "rd"
    exact R.dgetO hv k
def spMl (S : Addr) : Sp := fun vs H Q _ => ∃ (x : Addr) (z : Str) (rs : List SR) (ms : List MR), vs = [.ref x, .str z] ∧ SysAt S H x rs ms ∧ ms.length ≤ 100 ∧
  ((∃ m : MR, m ∈ ms ∧ m.w = z ∧ (ms.map (·.w)).Nodup ∧ ∀ b, H b = some (.tup (mrV m)) → Q (.ref b) H) ∨ (z ∉ ms.map (·.w) ∧ Q .non H))
theorem m_multiplier {S : Addr} (TS : SysK K S) {f : Addr} {fd : FuncData} (me : Meth K S "multiplier" f) (F : C8.Fun K "multiplier" "System.multiplier" sSysM f fd) (b : Binds K fd ["self", "word"] []) : Met P w K mg base 1 S "multiplier" (spMl S) [] := by
  refine met0 TS.cl me F b scSysM (fun vs H Q E h => ?_) (fun cdv A outer s H vs Q E hr h => ?_)
  · obtain ⟨x, z, rs, ms, rfl, _⟩ := h
    rfl
  · obtain ⟨x, z, rs, ms, rfl, ⟨dx, s, m, v, r, xs, ys, hx, hs, hts, hm, htm, hv, hrr⟩, hl, k⟩ := h
    refine ⟨_, pss_one (ps_ret (pe_dget1 (hu_of hr) (kFld K (pv 0)) (pv 1) ⟨by rfl, by rfl, by rfl, by rfl⟩)), ?_⟩
    have ly : ys.length = ms.length := by have := htm.len; rwa [List.length_map] at this
    walk_at "go"
    refine R.fldE hx TS.cl TS.nR rfl ?_
    refine R.dgetE hrr ?_
    walk_at "rd"
    refine R.dgetO hrr ?_
    have keys : (((ms.map (·.w)).zip ys).map fun q => ((Sum.inr q.1 : Key), q.2)).map (·.1) = (ms.map (·.w)).map fun z => (Sum.inr z : Key) := by
      rw [List.map_map]
      conv => rhs; rw [← List.map_fst_zip (l₁ := ms.map (·.w)) (l₂ := ys) (by rw [List.length_map]; omega)]
      rw [List.map_map]
      rfl
    rcases k with ⟨mm, hmm, rfl, hnd, kk⟩ | ⟨hz, kk⟩
    · obtain ⟨i, hi, hie⟩ := List.mem_iff_getElem.mp hmm
      have hri : ms[i]? = some mm := by rw [List.getElem?_eq_getElem hi, hie]
      obtain ⟨b, hb, hbt⟩ := htm.get i (mrV mm) (by rw [List.getElem?_map, hri]; rfl)
      have hz : ((ms.map (·.w)).zip ys)[i]? = some (mm.w, V.ref b) := List.getElem?_zip_eq_some.mpr ⟨by rw [List.getElem?_map, hri]; rfl, hb⟩
      have e : valV (((ms.map (·.w)).zip ys).map fun q => ((Sum.inr q.1 : Key), q.2)) (Sum.inr mm.w) = some (.ref b) := by
        refine valV_at ?_ (List.mem_map.mpr ⟨_, List.mem_of_getElem? hz, rfl⟩)
        rw [keys]
        rw [List.nodup_iff_pairwise_ne, List.pairwise_map]
        exact List.Pairwise.imp (fun h e => h (Sum.inr.inj e)) (List.nodup_iff_pairwise_ne.mp hnd)
      rw [e]
      exact kk b hbt
    · have e : valV (((ms.map (·.w)).zip ys).map fun q => ((Sum.inr q.1 : Key), q.2)) (Sum.inr z) = none := by
        refine valV_off ?_
        rw [keys]
        intro hm'
        obtain ⟨y, hy, ey⟩ := List.mem_map.mp hm'
        rw [Sum.inr.inj ey] at hy
        exact hz hy
      rw [e]
      exact kk
def mx (i j : Int) : Int := if j > i then j else i
end
end KN
end
section
set_option Elab.async false
set_option linter.all false
set_option maxRecDepth 100000
set_option maxHeartbeats 4000000
set_option pp.maxSteps 1500
set_option pp.deepTerms false
local macro_rules | `(tactic| walk_at "ne") => `(tactic| first
  | assumption | (apply Ne.symm; assumption)
  | exact R.ne_new (by assumption) | exact (R.ne_new (by assumption)).symm
  | exact L2.ne_of_none (by assumption) (by assumption) | exact (L2.ne_of_none (by assumption) (by assumption)).symm
  | exact L2.ne_of_none (by assumption) (R.free_new (by assumption)) | exact (L2.ne_of_none (by assumption) (R.free_new (by assumption))).symm)
local macro_rules | `(tactic| walk_at "at") => `(tactic| first
  | assumption | exact L2.upd_same
  | (refine R.sb (H := ?H) (p := ?p) ?e ?n ?h; (case e => assumption); (case n => walk_at "ne"); (case h => walk_at "at"))
  | (refine R.sm (H := ?H) ?e ?h; (case e => assumption); (case h => walk_at "at"))
  | (refine Eq.trans (L2.upd_ne ?_) ?_ <;> first | walk_at "ne" | walk_at "at"))
local macro_rules | `(tactic| walk_at "sqt") => `(tactic| first | assumption | (refine L2.SqT.of ?_; walk_at "at"))
local macro_rules | `(tactic| walk_at "ty") => `(tactic| first | exact R.tyN | exact R.tyB | exact R.tyI | exact R.tyS | (refine R.tyT (xs := ?xs) ?h; case h => walk_at "at") | (refine R.tyL (xs := ?xs) ?h; case h => walk_at "at"))
local macro_rules | `(tactic| walk_at "kit") => `(tactic| first | exact R.kit_NoneType_tuple | exact R.kit_NoneType_list | exact R.kit_NoneType_bool | exact R.kit_NoneType_str | exact R.kit_NoneType_int | exact R.kit_bool_tuple | exact R.kit_bool_list | exact R.kit_bool_bool | exact R.kit_bool_str | exact R.kit_bool_int | exact R.kit_int_tuple | exact R.kit_int_list | exact R.kit_int_bool | exact R.kit_int_str | exact R.kit_int_int | exact R.kit_str_tuple | exact R.kit_str_list | exact R.kit_str_bool | exact R.kit_str_str | exact R.kit_str_int | exact R.kit_tuple_tuple | exact R.kit_tuple_list | exact R.kit_tuple_bool | exact R.kit_tuple_str | exact R.kit_tuple_int | exact R.kit_list_tuple | exact R.kit_list_list | exact R.kit_list_bool | exact R.kit_list_str | exact R.kit_list_int)
local macro_rules | `(tactic| walk_at "sz") => `(tactic| first | assumption | (refine Nat.le_trans ?_ (show 1000 ≤ PySem.sizeLine by decide); omega) | decide)
local macro_rules | `(tactic| walk_at "szl") => `(tactic| first | assumption | exact Nat.le_of_lt (L2.small1000 (by omega)) | decide | decide +kernel)
local macro_rules | `(tactic| walk_at "sys") => `(tactic| first | assumption | exact KN.SysAt.same (by assumption) (by assumption))
local macro_rules | `(tactic| walk_at "dk") => `(tactic| first | exact R.rowsS _ _ | exact R.rowsM _ _)
local macro_rules | `(tactic| walk_at "sqa") => `(tactic| first | assumption | exact R.SeqA.same (by assumption) (by assumption) | exact R.SeqA.new (by assumption) (by assumption) | (exact Or.inl (by walk_at "at")) | (exact Or.inr (by walk_at "at")))
local macro_rules | `(tactic| walk_at "ix") => `(tactic| first | rfl | (exact L2.atI_nat (by assumption)) | assumption)
local macro_rules | `(tactic| walk_at "cond") => `(tactic| first
  | exact Or.inl (by decide) | exact Or.inr (by decide) | exact Or.inl ⟨by omega, by omega⟩ | exact Or.inr ⟨by omega, by omega⟩
  | (constructor <;> omega) | (show _ ≠ _; omega) | decide | omega)
local macro_rules | `(tactic| walk_at "r1") => `(tactic| first
  | ((with_reducible refine R.var (v := ?v) ?h ?q); case h => rfl)
  | with_reducible apply R.cons
  | with_reducible apply R.c
  | with_reducible apply R.nil
  | with_reducible apply R.op
  | with_reducible apply R.gname
  | with_reducible apply R.seq
  | with_reducible apply R.call
  | with_reducible apply R.asg
  | with_reducible apply R.ex
  | with_reducible apply R.tst
  | with_reducible apply R.i0
  | with_reducible apply R.ifs
  | with_reducible apply R.ret
  | with_reducible apply R.retN
  | with_reducible apply R.drop
  | with_reducible apply R.next
  | with_reducible apply R.tb_
  | with_reducible apply R.eqI
  | with_reducible apply R.neI
  | ((with_reducible refine R.ic ?_ ?_); · walk_at "cond")
  | with_reducible apply R.u0
  | with_reducible apply R.un
  | ((with_reducible refine R.eq ?_ ?_); · rfl)
  | ((with_reducible refine R.ne ?_ ?_); · rfl)
  | with_reducible apply R.and_
  | with_reducible apply R.or_
  | with_reducible apply R.not_
  | with_reducible apply R.ife
  | with_reducible apply R.chain
  | with_reducible apply R.cb
  | with_reducible apply R.bm
  | with_reducible apply R.gsub
  | with_reducible apply R.gnil
  | with_reducible apply R.gcons
  | with_reducible apply R.yes
  | with_reducible apply R.int1
  | ((with_reducible refine R.lenL (xs := ?xs) ?h ?q); case h => walk_at "at")
  | ((with_reducible refine R.ixL (xs := ?xs) (v := ?v) ?h ?e ?q); (case h => walk_at "at"); (case e => walk_at "ix"))
  | ((with_reducible refine R.setL (xs := ?xs) (n := ?n) ?h ?e ?q); (case h => walk_at "at"); (case e => rfl))
  | ((with_reducible refine R.append (xs := ?xs) ?h ?e ?q); (case h => walk_at "at"); (case e => walk_at "cond"))
  | with_reducible apply R.is_
  | with_reducible apply R.isnot
  | with_reducible apply R.andV
  | with_reducible apply R.orV
  | with_reducible apply R.notV
  | ((with_reducible refine R.isi (s := ?s) (b := ?b) ?ty ?h ?q); (case ty => walk_at "ty"); (case h => walk_at "kit"))
  | ((with_reducible refine R.addS ?h ?q); (case h => walk_at "sz"))
  | with_reducible apply R.max2
  | with_reducible apply R.min2
  | ((with_reducible refine R.lenStr ?h ?q); (case h => walk_at "szl"))
  | ((with_reducible refine R.ixS (n := ?n) ?h ?e ?q); (case h => walk_at "szl"); (case e => walk_at "ix"))
  | ((with_reducible refine R.tyl (xs := ?xs) ?h ?q); (case h => walk_at "at"))
  | with_reducible apply R.itlist
  | with_reducible apply R.ittup
  | with_reducible apply R.m1
  | with_reducible apply R.m1s
  | with_reducible apply R.leS
  | with_reducible apply R.itstr
  | with_reducible apply R.itstrE
  | with_reducible apply R.lc
  | with_reducible apply R.lc2
  | with_reducible apply R.ckw
  | with_reducible apply R.par
  | with_reducible apply R.parE
  | with_reducible apply R.itrev
  | with_reducible apply R.dsetd
  | with_reducible apply R.dnotin_
  | with_reducible apply R.for_
  | ((with_reducible refine R.all_ (bs := ?bs) ?h ?q); (case h => walk_at "at"))
  | with_reducible apply R.rng1
  | ((with_reducible refine R.rngE ?h ?q); (case h => (constructor <;> omega)))
  | ((with_reducible refine R.lenT (xs := ?xs) ?h ?q); (case h => walk_at "sqt"))
  | ((with_reducible refine R.ixT (xs := ?xs) (v := ?v) ?h ?e ?q); (case h => walk_at "sqt"); (case e => walk_at "ix"))
  | ((refine R.itlE (xs := ?xs) ?h ?q); (case h => walk_at "at"))
  | ((refine R.ittE (xs := ?xs) ?h ?q); (case h => walk_at "at"))
  | ((refine R.gseq (xs := ?xs) ?h ?e ?q); (case h => walk_at "sqa"); (case e => rfl))
  | ((refine R.ixA (xs := ?xs) (v := ?v) ?h ?e ?q); (case h => walk_at "sqa"); (case e => walk_at "ix"))
  | ((refine R.lenA (xs := ?xs) ?h ?q); (case h => walk_at "sqa"))
  | ((with_reducible refine R.gtup (xs := ?xs) ?h ?e ?q); (case h => walk_at "sqt"); (case e => rfl))
  | with_reducible apply R.din_
  | with_reducible apply R.dput_
  | with_reducible apply R.dget2_
  | ((with_reducible refine R.aug_ (x := ?x) ?h ?q); case h => rfl)
  | with_reducible apply R.ipI_
  | with_reducible apply R.rng2
  | ((with_reducible refine R.rngE2 ?h ?q); (case h => (refine ⟨?_, ?_, ?_, ?_⟩ <;> omega)))
  | with_reducible apply R.brk
  | with_reducible apply R.intB
  | with_reducible apply R.meth_
  | ((refine KN.methS (rs := ?rs) (ms := ?ms) ?h (fun _ _ _ _ => rfl) ?q); case h => walk_at "sys")
  | with_reducible apply R.sl_
  | with_reducible apply R.np_
  | with_reducible apply R.pt_
  | with_reducible apply R.ptE
  | with_reducible apply R.dget_
  | with_reducible apply R.revL_
  | ((refine R.dgetS (kvs := ?kvs) (v := ?v) ?h ?e ?q); (case h => walk_at "at"); (case e => walk_at "dk"))
  | with_reducible apply R.sfld
  | with_reducible apply R.fld_
  | with_reducible apply R.dc
  | with_reducible apply R.dget1_
  | with_reducible apply R.itseq
  | with_reducible apply R.itenum
  | with_reducible apply R.itT
  | with_reducible apply R.itF
  | with_reducible apply R.itNT
  | with_reducible apply R.itNF
  | (with_reducible apply R.tup)
  | (with_reducible apply R.lst))
local macro_rules | `(tactic| walk_at "rd") => `(tactic| (repeat (first | walk_at "r1" | (dsimp only [Int.reduceToNat, List.set_cons_succ, List.set_cons_zero, List.length_cons, List.length_nil, List.nil_append, List.cons_append, List.append_nil]))))
local macro_rules | `(tactic| walk_at "go") => `(tactic| (rw [R.start_eq]; dsimp only [R.startE, List.map_nil]; walk_at "rd"))
namespace KN
open PySem L2 SX R
open C8 (Cal Def cal0 pe_c pe_gc fnScope fnBody pss_cut)
section
variable {P : Program} {w : World} {K : PySem.W.Frag} {mg : Str → Option Value} {base : Heap}
abbrev sWord : Stmt := top 36
theorem scWord : FnScope ["pool", "number", "letters", "total", "found", "k"] ["pool", "number"] (fnScope sWord) := ⟨rfl, rfl, rfl, by decide +kernel, rfl, by decide +kernel, by decide +kernel⟩
/-- the first letter of the word with a number -/
def tot (cs : List Int) : Int := (cs.take 5).sum
def lead (cs : List Int) (n : Int) : Nat := 97 + ((n * (1 + (tot cs).fmod 22) + tot cs).fmod 23).toNat
def WordN (cs : List Int) (n : Int) (z : Str) : Prop := ∃ r : List Nat, z = S (lead cs n :: r) ∧ r.length ≤ 7 ∧ ∀ c ∈ r, 97 ≤ c ∧ c ≤ 122
theorem lead_lt (cs : List Int) (n : Int) : 97 ≤ lead cs n ∧ lead cs n ≤ 119 := by
  unfold lead
  have := fmod_lt (a := n * (1 + (tot cs).fmod 22) + tot cs) (m := 23) (by decide)
  omega
theorem WordN.good {cs : List Int} {n : Int} {z : Str} (h : WordN cs n z) : GoodW z := by
  obtain ⟨r, rfl, h1, h2⟩ := h
  have := lead_lt cs n
  refine ⟨_, rfl, by simp, by simp; omega, fun c hc => ?_⟩
  rcases List.mem_cons.mp hc with e | e
  · subst e; omega
  · exact h2 c e
theorem mul23 : ∀ a, a < 22 → ∀ d, d < 22 → ((d + 1) * (a + 1)) % 23 ≠ 0 := by decide +kernel
theorem lead_ne {cs : List Int} {n m : Int} (h : n < m) (h2 : m < n + 23) (e : lead cs n = lead cs m) : False := by
  unfold lead at e
  have z1 := fmod_lt (a := n * (1 + (tot cs).fmod 22) + tot cs) (m := 23) (by decide)
  have z2 := fmod_lt (a := m * (1 + (tot cs).fmod 22) + tot cs) (m := 23) (by decide)
  have z3 := fmod_lt (a := tot cs) (m := 22) (by decide)
  generalize (tot cs).fmod 22 = a at *
  rw [Int.fmod_eq_emod_of_nonneg _ (by decide)] at *
  rw [Int.fmod_eq_emod_of_nonneg _ (by decide)] at *
  have e2 : (n * (1 + a) + tot cs) % 23 = (m * (1 + a) + tot cs) % 23 := by omega
  have e3 : ((m - n) * (1 + a)) % 23 = 0 := by
    have : (m - n) * (1 + a) = (m * (1 + a) + tot cs) - (n * (1 + a) + tot cs) := by
      rw [Int.sub_mul]; omega
    rw [this, Int.sub_emod, e2, Int.sub_self]; rfl
  have q := mul23 a.toNat (by omega) (m - n - 1).toNat (by omega)
  refine q ?_
  have c1 : (((m - n - 1).toNat + 1 : Nat) : Int) = m - n := by omega
  have c2 : ((a.toNat + 1 : Nat) : Int) = 1 + a := by omega
  have : ((((m - n - 1).toNat + 1) * (a.toNat + 1) : Nat) : Int) % 23 = 0 := by
    rw [Int.natCast_mul, c1, c2]; exact e3
  omega
theorem WordN.inj {cs : List Int} {n m : Int} {z : Str} (h1 : WordN cs n z) (h2 : WordN cs m z) (a : n < m + 23) (b : m < n + 23) : n = m := by
  obtain ⟨r, rfl, _, _⟩ := h1
  obtain ⟨r', e, _, _⟩ := h2
  have e' := S_inj e
  have e2 := (List.cons.inj e').1
  rcases Int.lt_trichotomy n m with q | q | q
  · exact (lead_ne q b e2).elim
  · exact q
  · exact (lead_ne q a e2.symm).elim
abbrev lettersV : V := .str (Str.ofString "abcdefghijklmnopqrstuvwxyz")
def spWord : Sp := fun vs H Q _ => ∃ (p l : Addr) (cs : List Int) (n : Int), vs = [.ref p, .int n] ∧ PoolAt H p l ∧ H l = some (.lst (cs.map V.int)) ∧ 0 ≤ n ∧ n ≤ 1000 ∧
  ∀ H' z, SameBut p H H' → PoolAt H' p l → WordN cs n z → Q (.str z) H'
theorem c_word (Z : Zs mg) (c_take : Cal P w K mg base 2 "_law_take" spTake []) {f : Addr} {fd : FuncData} (F : Def K mg "_law_word" sWord f fd) (b : Binds K fd ["pool", "number"] []) : Cal P w K mg base 3 "_law_word" spWord [] := by
  refine cal0 F b .nil scWord (fun vs H Q E h => ?_) (fun cdv A outer s H vs Q E hr h => ?_)
  · obtain ⟨p, l, cs, n, rfl, _⟩ := h
    rfl
  · obtain ⟨p, l, cs, n, rfl, hP, hl, n0, n1, k⟩ := h
    refine ⟨_, pss_cons (ps_set (i := 2) scWord.nd rfl (Or.inl rfl) pe_str)
      (pss_cons (ps_set (i := 3) scWord.nd rfl (Or.inl rfl) (pe_callB (kSum K) (by rfl) Z.sum (by decide +kernel) (pa_cons (pe_slice (kSlL K) (pe_ix (kIxL K) (pv 0) pe_int (fun _ _ => rfl)) po_none (po_some pe_int)) pa_nil)))
      (pss_cons (ps_set (i := 4) scWord.nd rfl (Or.inl rfl) (pe_ix ix_str (pv 2) (pe_op op_modN (pe_callTy cInt (by rfl) Z.int (by decide +kernel) (pa_cons (pe_op op_add (pe_op op_mul (pv 1) (pe_op op_add pe_int (pe_op op_modN (pe_callTy cInt (by rfl) Z.int (by decide +kernel) (pa_cons (pv 3) pa_nil)) pe_int))) (pv 3)) pa_nil)) pe_int) (fun _ _ => rfl)))
      (pss_cons (ps_for PassesOwn.never rfl (pi_range1 (by rfl) Z.range (pa_cons (pe_op op_mul (pe_op op_fdivN (pe_c c_take hr (by omega) (by rfl) (pa_cons (pv 0) (pa_cons pe_int pa_nil))) pe_int) (pe_c c_take hr (by omega) (by rfl) (pa_cons (pv 0) (pa_cons pe_int pa_nil)))) pa_nil)) (pg_name (i := 5) scWord.nd rfl (Or.inl rfl))
        (pss_one (ps_set (i := 4) scWord.nd rfl (Or.inl rfl) (pe_op oAddS (pv 4) (pe_ix ix_str (pv 2) (pe_c c_take hr (by omega) (by rfl) (pa_cons (pv 0) (pa_cons pe_int pa_nil))) (fun _ _ => rfl))))))
      (pss_one (ps_ret (pv 4)))))), ?_⟩
    obtain ⟨⟨cs', i0, d0, s0, hp, hl', hpos⟩, hne⟩ := hP
    have hP : PoolAt H p l := ⟨⟨cs', i0, d0, s0, hp, hl', hpos⟩, hne⟩
    walk_at "go"
    refine slLN hl fun a H1 s1 _ ha => ?_
    rw [cut_to _ (by decide)] at ha
    have ha' : H1 a = some (.lst ((cs.take 5).map V.int)) := by rw [ha, List.map_take]; rfl
    have hP1 := hP.same s1
    walk_at "rd"
    refine sum_ ha' ?_
    walk_at "rd"
    have eL : lead cs n = 97 + ((n * (1 + (tot cs).fmod 22) + tot cs).fmod 23).toNat := rfl
    have tq : (cs.take 5).sum = tot cs := rfl
    rw [tq]
    have z1 := fmod_lt (a := n * (1 + (tot cs).fmod 22) + tot cs) (m := 23) (by decide)
    generalize (n * (1 + (tot cs).fmod 22) + tot cs).fmod 23 = g at eL z1
    have e3 := letters_at (d := g) z1.1 (by omega)
    walk_at "rd"
    refine r_take' hP1 (by decide) (by decide) (fun H2 d2 e2 P2 n2 n3 => ?_)
    walk_at "rd"
    obtain ⟨q, hq, q0⟩ : ∃ q : Int, d2.fdiv 6 = q ∧ (q = 0 ∨ q = 1) := ⟨_, rfl, by rw [Int.fdiv_eq_ediv_of_nonneg _ (by decide)]; omega⟩
    rw [hq]
    refine r_take' P2 (by decide) (by decide) (fun H3 d3 e3' P3 n4 n5 => ?_)
    refine R.ic (by rcases q0 with rfl | rfl <;> first | exact Or.inl (by decide) | exact Or.inl ⟨by decide, by decide⟩) ?_
    obtain ⟨m, hm, m0, m1⟩ : ∃ m : Int, q * d3 = m ∧ 0 ≤ m ∧ m ≤ 7 := ⟨_, rfl, by rcases q0 with rfl | rfl <;> omega, by rcases q0 with rfl | rfl <;> omega⟩
    rw [hm]
    walk_at "rd"
    rw [← eL]
    have b3 : SameBut p H H3 := ((SameBut.of s1).trans e2).trans e3'
    refine for_it walk_range (fun i σ' H' => ∃ (kv : Option V) (r : List Nat), σ' = [some (.ref p), some (.int n), some lettersV, some (.int (tot cs)), some (.str (S (lead cs n :: r))), kv] ∧ SameBut p H H' ∧ PoolAt H' p l ∧ r.length = i ∧ ∀ c ∈ r, 97 ≤ c ∧ c ≤ 122)
      ⟨none, [], rfl, b3, P3, rfl, fun c h => nomatch h⟩ (fun _ _ _ _ _ => trivial) ?_ ?_
    · rintro i x σ' H4 H4' hi ⟨kv, r, rfl, b4, P4, hr1, hr2⟩ ⟨rfl, rfl⟩
      walk_at "rd"
      refine r_take' P4 (by decide) (by decide) (fun H5 d5 e5 P5 n6 n7 => ?_)
      have e6 := letters_at (d := d5) n6 (by omega)
      have hz : (S (lead cs n :: r)).length + (S [97 + d5.toNat]).length ≤ sizeLine := by
        rw [S_len, S_len]
        refine Nat.le_trans ?_ (show 1000 ≤ sizeLine by decide)
        show (r.length + 1) + 1 ≤ 1000
        omega
      walk_at "rd"
      rw [S_cat]
      exact ⟨_, r ++ [97 + d5.toNat], rfl, b4.trans e5, P5, by simp [hr1], fun c hc => by
        rcases List.mem_append.mp hc with h | h
        · exact hr2 c h
        · rw [List.mem_singleton.mp h]; omega⟩
    · rintro σ' H4 ⟨kv, r, rfl, b4, P4, hr1, hr2⟩
      walk_at "rd"
      exact k _ _ b4 P4 ⟨r, rfl, by omega, hr2⟩
end
end KN
end
section
set_option Elab.async false
set_option linter.all false
set_option maxRecDepth 100000
set_option maxHeartbeats 4000000
set_option pp.maxSteps 1500
set_option pp.deepTerms false
local macro_rules | `(tactic| walk_at "ne") => `(tactic| first
  | assumption | (apply Ne.symm; assumption)
  | exact R.ne_new (by assumption) | exact (R.ne_new (by assumption)).symm
  | exact L2.ne_of_none (by assumption) (by assumption) | exact (L2.ne_of_none (by assumption) (by assumption)).symm
  | exact L2.ne_of_none (by assumption) (R.free_new (by assumption)) | exact (L2.ne_of_none (by assumption) (R.free_new (by assumption))).symm)
local macro_rules | `(tactic| walk_at "at") => `(tactic| first
  | assumption | exact L2.upd_same
  | (refine R.sb (H := ?H) (p := ?p) ?e ?n ?h; (case e => assumption); (case n => walk_at "ne"); (case h => walk_at "at"))
  | (refine R.sm (H := ?H) ?e ?h; (case e => assumption); (case h => walk_at "at"))
  | (refine Eq.trans (L2.upd_ne ?_) ?_ <;> first | walk_at "ne" | walk_at "at"))
local macro_rules | `(tactic| walk_at "sqt") => `(tactic| first | assumption | (refine L2.SqT.of ?_; walk_at "at"))
local macro_rules | `(tactic| walk_at "ty") => `(tactic| first | exact R.tyN | exact R.tyB | exact R.tyI | exact R.tyS | (refine R.tyT (xs := ?xs) ?h; case h => walk_at "at") | (refine R.tyL (xs := ?xs) ?h; case h => walk_at "at"))
local macro_rules | `(tactic| walk_at "kit") => `(tactic| first | exact R.kit_NoneType_tuple | exact R.kit_NoneType_list | exact R.kit_NoneType_bool | exact R.kit_NoneType_str | exact R.kit_NoneType_int | exact R.kit_bool_tuple | exact R.kit_bool_list | exact R.kit_bool_bool | exact R.kit_bool_str | exact R.kit_bool_int | exact R.kit_int_tuple | exact R.kit_int_list | exact R.kit_int_bool | exact R.kit_int_str | exact R.kit_int_int | exact R.kit_str_tuple | exact R.kit_str_list | exact R.kit_str_bool | exact R.kit_str_str | exact R.kit_str_int | exact R.kit_tuple_tuple | exact R.kit_tuple_list | exact R.kit_tuple_bool | exact R.kit_tuple_str | exact R.kit_tuple_int | exact R.kit_list_tuple | exact R.kit_list_list | exact R.kit_list_bool | exact R.kit_list_str | exact R.kit_list_int)
local macro_rules | `(tactic| walk_at "sz") => `(tactic| first | assumption | (refine Nat.le_trans ?_ (show 1000 ≤ PySem.sizeLine by decide); omega) | decide)
local macro_rules | `(tactic| walk_at "szl") => `(tactic| first | assumption | exact Nat.le_of_lt (L2.small1000 (by omega)) | decide | decide +kernel)
local macro_rules | `(tactic| walk_at "sys") => `(tactic| first | assumption | exact KN.SysAt.same (by assumption) (by assumption))
local macro_rules | `(tactic| walk_at "dk") => `(tactic| first | exact R.rowsS _ _ | exact R.rowsM _ _)
local macro_rules | `(tactic| walk_at "sqa") => `(tactic| first | assumption | exact R.SeqA.same (by assumption) (by assumption) | exact R.SeqA.new (by assumption) (by assumption) | (exact Or.inl (by walk_at "at")) | (exact Or.inr (by walk_at "at")))
local macro_rules | `(tactic| walk_at "ix") => `(tactic| first | rfl | (exact L2.atI_nat (by assumption)) | assumption)
local macro_rules | `(tactic| walk_at "cond") => `(tactic| first
  | exact Or.inl (by decide) | exact Or.inr (by decide) | exact Or.inl ⟨by omega, by omega⟩ | exact Or.inr ⟨by omega, by omega⟩
  | (constructor <;> omega) | (show _ ≠ _; omega) | decide | omega)
local macro_rules | `(tactic| walk_at "r1") => `(tactic| first
  | ((with_reducible refine R.var (v := ?v) ?h ?q); case h => rfl)
  | with_reducible apply R.cons
  | with_reducible apply R.c
  | with_reducible apply R.nil
  | with_reducible apply R.op
  | with_reducible apply R.gname
  | with_reducible apply R.seq
  | with_reducible apply R.call
  | with_reducible apply R.asg
  | with_reducible apply R.ex
  | with_reducible apply R.tst
  | with_reducible apply R.i0
  | with_reducible apply R.ifs
  | with_reducible apply R.ret
  | with_reducible apply R.retN
  | with_reducible apply R.drop
  | with_reducible apply R.next
  | with_reducible apply R.tb_
  | with_reducible apply R.eqI
  | with_reducible apply R.neI
  | ((with_reducible refine R.ic ?_ ?_); · walk_at "cond")
  | with_reducible apply R.u0
  | with_reducible apply R.un
  | ((with_reducible refine R.eq ?_ ?_); · rfl)
  | ((with_reducible refine R.ne ?_ ?_); · rfl)
  | with_reducible apply R.and_
  | with_reducible apply R.or_
  | with_reducible apply R.not_
  | with_reducible apply R.ife
  | with_reducible apply R.chain
  | with_reducible apply R.cb
  | with_reducible apply R.bm
  | with_reducible apply R.gsub
  | with_reducible apply R.gnil
  | with_reducible apply R.gcons
  | with_reducible apply R.yes
  | with_reducible apply R.int1
  | ((with_reducible refine R.lenL (xs := ?xs) ?h ?q); case h => walk_at "at")
  | ((with_reducible refine R.ixL (xs := ?xs) (v := ?v) ?h ?e ?q); (case h => walk_at "at"); (case e => walk_at "ix"))
  | ((with_reducible refine R.setL (xs := ?xs) (n := ?n) ?h ?e ?q); (case h => walk_at "at"); (case e => rfl))
  | ((with_reducible refine R.append (xs := ?xs) ?h ?e ?q); (case h => walk_at "at"); (case e => walk_at "cond"))
  | with_reducible apply R.is_
  | with_reducible apply R.isnot
  | with_reducible apply R.andV
  | with_reducible apply R.orV
  | with_reducible apply R.notV
  | ((with_reducible refine R.isi (s := ?s) (b := ?b) ?ty ?h ?q); (case ty => walk_at "ty"); (case h => walk_at "kit"))
  | ((with_reducible refine R.addS ?h ?q); (case h => walk_at "sz"))
  | with_reducible apply R.max2
  | with_reducible apply R.min2
  | ((with_reducible refine R.lenStr ?h ?q); (case h => walk_at "szl"))
  | ((with_reducible refine R.ixS (n := ?n) ?h ?e ?q); (case h => walk_at "szl"); (case e => walk_at "ix"))
  | ((with_reducible refine R.tyl (xs := ?xs) ?h ?q); (case h => walk_at "at"))
  | with_reducible apply R.itlist
  | with_reducible apply R.ittup
  | with_reducible apply R.m1
  | with_reducible apply R.m1s
  | with_reducible apply R.leS
  | with_reducible apply R.itstr
  | with_reducible apply R.itstrE
  | with_reducible apply R.lc
  | with_reducible apply R.lc2
  | with_reducible apply R.ckw
  | with_reducible apply R.par
  | with_reducible apply R.parE
  | with_reducible apply R.itrev
  | with_reducible apply R.dsetd
  | with_reducible apply R.dnotin_
  | with_reducible apply R.for_
  | ((with_reducible refine R.all_ (bs := ?bs) ?h ?q); (case h => walk_at "at"))
  | with_reducible apply R.rng1
  | ((with_reducible refine R.rngE ?h ?q); (case h => (constructor <;> omega)))
  | ((with_reducible refine R.lenT (xs := ?xs) ?h ?q); (case h => walk_at "sqt"))
  | ((with_reducible refine R.ixT (xs := ?xs) (v := ?v) ?h ?e ?q); (case h => walk_at "sqt"); (case e => walk_at "ix"))
  | ((refine R.itlE (xs := ?xs) ?h ?q); (case h => walk_at "at"))
  | ((refine R.ittE (xs := ?xs) ?h ?q); (case h => walk_at "at"))
  | ((refine R.gseq (xs := ?xs) ?h ?e ?q); (case h => walk_at "sqa"); (case e => rfl))
  | ((refine R.ixA (xs := ?xs) (v := ?v) ?h ?e ?q); (case h => walk_at "sqa"); (case e => walk_at "ix"))
  | ((refine R.lenA (xs := ?xs) ?h ?q); (case h => walk_at "sqa"))
  | ((with_reducible refine R.gtup (xs := ?xs) ?h ?e ?q); (case h => walk_at "sqt"); (case e => rfl))
  | with_reducible apply R.din_
  | with_reducible apply R.dput_
  | with_reducible apply R.dget2_
  | ((with_reducible refine R.aug_ (x := ?x) ?h ?q); case h => rfl)
  | with_reducible apply R.ipI_
  | with_reducible apply R.rng2
  | ((with_reducible refine R.rngE2 ?h ?q); (case h => (refine ⟨?_, ?_, ?_, ?_⟩ <;> omega)))
  | with_reducible apply R.brk
  | with_reducible apply R.intB
  | with_reducible apply R.meth_
  | ((refine KN.methS (rs := ?rs) (ms := ?ms) ?h (fun _ _ _ _ => rfl) ?q); case h => walk_at "sys")
  | with_reducible apply R.sl_
  | with_reducible apply R.np_
  | with_reducible apply R.pt_
  | with_reducible apply R.ptE
  | with_reducible apply R.dget_
  | with_reducible apply R.revL_
  | ((refine R.dgetS (kvs := ?kvs) (v := ?v) ?h ?e ?q); (case h => walk_at "at"); (case e => walk_at "dk"))
  | with_reducible apply R.sfld
  | with_reducible apply R.fld_
  | with_reducible apply R.dc
  | with_reducible apply R.dget1_
  | with_reducible apply R.itseq
  | with_reducible apply R.itenum
  | with_reducible apply R.itT
  | with_reducible apply R.itF
  | with_reducible apply R.itNT
  | with_reducible apply R.itNF
  | (with_reducible apply R.tup)
  | (with_reducible apply R.lst))
local macro_rules | `(tactic| walk_at "rd") => `(tactic| (repeat (first | walk_at "r1" | (dsimp only [Int.reduceToNat, List.set_cons_succ, List.set_cons_zero, List.length_cons, List.length_nil, List.nil_append, List.cons_append, List.append_nil]))))
local macro_rules | `(tactic| walk_at "go") => `(tactic| (rw [R.start_eq]; dsimp only [R.startE, List.map_nil]; walk_at "rd"))
namespace KN
open PySem L2 SX R
theorem methS {S x : Addr} {n : Str} {H : Hp} {rs : List SR} {ms : List MR} {T : Prop} (hX : SysAt S H x rs ms) (hn : ∀ a b c d, (sysFs a b c d).lookup n = none) (q : T) : ∃ a dx fs, V.ref x = .ref a ∧ H a = some (.ins S dx fs) ∧ fs.lookup n = none ∧ T := by
  obtain ⟨dx, s, m, v, r, xs, ys, h, _⟩ := hX
  exact ⟨x, dx, _, rfl, h, hn _ _ _ _, q⟩
section
variable {H0 H H' : Hp} {p l s m r : Addr} {cs : List Int} {xs ys : List V} {ds es : List (List V)}
/-- a list under construction, beside the pool -/
structure DL (H0 H : Hp) (p l s : Addr) (cs : List Int) (xs : List V) (ds : List (List V)) : Prop where
  sb : SameBut p H0 H
  P : PoolAt H p l
  hl : H l = some (.lst (cs.map V.int))
  hs : H s = some (.lst xs)
  ts : TupsAt H xs ds
  s0 : H0 s = none
  sp : s ≠ p
  sl : s ≠ l
theorem DL.take (R : DL H0 H p l s cs xs ds) (e : SameBut p H H') (P : PoolAt H' p l) : DL H0 H' p l s cs xs ds :=
  ⟨R.sb.trans e, P, e _ _ P.ne R.hl, e _ _ R.sp R.hs, R.ts.keep (keep_pool R.P e), R.s0, R.sp, R.sl⟩
theorem DL.same (R : DL H0 H p l s cs xs ds) (e : Same H H') : DL H0 H' p l s cs xs ds := R.take (SameBut.of e) (R.P.same e)
theorem DL.app {a : Addr} {d : List V} (R : DL H0 H p l s cs xs ds) (h : H a = some (.tup d)) : DL H0 (upd H s (.lst (xs ++ [.ref a]))) p l s cs (xs ++ [.ref a]) (ds ++ [d]) :=
  ⟨R.sb.put' R.s0, R.P.put R.sp R.sl, by rw [upd_ne R.sl.symm]; exact R.hl, upd_same, (R.ts.keep (keep_list R.hs)).snoc (keep_list R.hs _ _ h), R.s0, R.sp, R.sl⟩
/-- two of them -/
structure DM (H0 H : Hp) (p l s m : Addr) (cs : List Int) (xs : List V) (ds : List (List V)) (ys : List V) (es : List (List V)) : Prop where
  R : DL H0 H p l s cs xs ds
  hm : H m = some (.lst ys)
  tm : TupsAt H ys es
  m0 : H0 m = none
  mp : m ≠ p
  ml : m ≠ l
  ms : m ≠ s
theorem DM.take (M : DM H0 H p l s m cs xs ds ys es) (e : SameBut p H H') (P : PoolAt H' p l) : DM H0 H' p l s m cs xs ds ys es :=
  ⟨M.R.take e P, e _ _ M.mp M.hm, M.tm.keep (keep_pool M.R.P e), M.m0, M.mp, M.ml, M.ms⟩
theorem DM.same (M : DM H0 H p l s m cs xs ds ys es) (e : Same H H') : DM H0 H' p l s m cs xs ds ys es := M.take (SameBut.of e) (M.R.P.same e)
theorem DM.app {a : Addr} {d : List V} (M : DM H0 H p l s m cs xs ds ys es) (h : H a = some (.tup d)) : DM H0 (upd H m (.lst (ys ++ [.ref a]))) p l s m cs xs ds (ys ++ [.ref a]) (es ++ [d]) :=
  ⟨⟨M.R.sb.put' M.m0, M.R.P.put M.mp M.ml, by rw [upd_ne M.ml.symm]; exact M.R.hl, by rw [upd_ne M.ms.symm]; exact M.R.hs, M.R.ts.keep (keep_list M.hm), M.R.s0, M.R.sp, M.R.sl⟩,
    upd_same, (M.tm.keep (keep_list M.hm)).snoc (keep_list M.hm _ _ h), M.m0, M.mp, M.ml, M.ms⟩
theorem DL.nil0 (R : DL H0 H p l s cs xs ds) {t : Addr} (h : H t = none) : H0 t = none := by
  cases z : H0 t with
  | none => rfl
  | some o =>
    have : t = p := by
      by_cases e : t = p
      · exact e
      · have := R.sb _ _ e z
        rw [h] at this
        cases this
    exact absurd this (R.P.nep h).1
theorem DL.of (hP : PoolAt H p l) (hl : H l = some (.lst (cs.map V.int))) (e : SameBut p H H') (P : PoolAt H' p l) (n : H' s = none) : DL H (upd H' s (.lst [])) p l s cs [] [] := by
  obtain ⟨sp, sl⟩ := P.nep n
  have s0 : H s = none := by
    cases z : H s with
    | none => rfl
    | some o => have := e _ _ sp z; rw [n] at this; cases this
  exact ⟨e.new n, P.new n, by rw [upd_ne sl.symm]; exact e _ _ P.ne hl, upd_same, .nil, s0, sp, sl⟩
theorem DM.of (R : DL H0 H p l s cs xs ds) (n : H m = none) : DM H0 (upd H m (.lst [])) p l s m cs xs ds [] [] := by
  obtain ⟨mp, ml⟩ := R.P.nep n
  exact ⟨R.same (same_new (Same.refl _) n), upd_same, .nil, R.nil0 n, mp, ml, (ne_of_none R.hs n).symm⟩
/-- the two lists of a drawn system, in a dict -/
def RowsAt (H : Hp) (r : Addr) (rs : List SR) (ms : List MR) : Prop := ∃ (s m : Addr) (xs ys : List V), H r = some (.dK (rowsKs s m)) ∧ H s = some (.lst xs) ∧ TupsAt H xs (rs.map srV) ∧ H m = some (.lst ys) ∧ TupsAt H ys (ms.map mrV)
theorem tups_ne (h : PoolAt H p l) (hs : H s = some (.lst xs)) (ts : TupsAt H xs ds) : s ≠ p := by
  rintro rfl
  obtain ⟨⟨cs, i, d, z, h1, _⟩, _⟩ := h
  rw [h1] at hs
  cases hs
  cases ts with
  | cons _ t => cases t
theorem RowsAt.pool {rs : List SR} {ms : List MR} (h : RowsAt H r rs ms) (P : PoolAt H p l) (e : SameBut p H H') : RowsAt H' r rs ms := by
  obtain ⟨s, m, xs, ys, h1, h2, h3, h4, h5⟩ := h
  have rp : r ≠ p := by
    rintro rfl
    obtain ⟨⟨cs, i, d, z, h1', _⟩, _⟩ := P
    rw [h1] at h1'
    cases h1'
  exact ⟨s, m, xs, ys, e _ _ rp h1, e _ _ (tups_ne P h2 h3) h2, h3.keep (keep_pool P e), e _ _ (tups_ne P h4 h5) h4, h5.keep (keep_pool P e)⟩
theorem RowsAt.same {rs : List SR} {ms : List MR} (h : RowsAt H r rs ms) (e : Same H H') : RowsAt H' r rs ms := by
  obtain ⟨s, m, xs, ys, h1, h2, h3, h4, h5⟩ := h
  exact ⟨s, m, xs, ys, e _ _ h1, e _ _ h2, h3.keep (fun a d q => e _ _ q), e _ _ h4, h5.keep (fun a d q => e _ _ q)⟩
end
/-- begins with a letter ahead of x -/
def Fst (z : Str) : Prop := ∃ (c : Nat) (r : List Nat), z = S (c :: r) ∧ c < 120
theorem WordN.fst {cs : List Int} {n : Int} {z : Str} (h : WordN cs n z) : Fst z := by
  obtain ⟨r, rfl, _⟩ := h
  exact ⟨_, r, rfl, by have := lead_lt cs n; omega⟩
/-- a drawn system with bounds -/
structure Drawn (sv mv mc : Int) (rs : List SR) (ms : List MR) : Prop where
  g : GoodSys rs ms
  s : ∀ r ∈ rs, r.v ≤ sv
  v : ∀ m ∈ ms, m.v ≤ mv
  c : ∀ m ∈ ms, ∀ c, m.c = some c → c ≤ mc
  n : rs.length ≤ 16
  f : ∀ z ∈ rs.map (·.w) ++ ms.map (·.w), Fst z
theorem Drawn.mono {sv mv mc sv' mv' mc' : Int} {rs : List SR} {ms : List MR} (h : Drawn sv mv mc rs ms) (h1 : sv ≤ sv') (h2 : mv ≤ mv') (h3 : mc ≤ mc') : Drawn sv' mv' mc' rs ms :=
  ⟨h.g, fun r hr => Int.le_trans (h.s r hr) h1, fun m hm => Int.le_trans (h.v m hm) h2, fun m hm c hc => Int.le_trans (h.c m hm c hc) h3, h.n, h.f⟩
/-- words of numbers that differ are different -/
theorem nodupW {cs : List Int} {ws : List Str} (f : Nat → Int) (h : ∀ i z, ws[i]? = some z → WordN cs (f i) z) (hf : ∀ i j, i < j → j < ws.length → f i ≠ f j ∧ f i < f j + 23 ∧ f j < f i + 23) : ws.Nodup := by
  rw [List.nodup_iff_pairwise_ne, List.pairwise_iff_getElem]
  intro i j hi hj hij e
  obtain ⟨n, a, b⟩ := hf i j hij hj
  have w1 := h i _ (List.getElem?_eq_getElem hi)
  have w2 := h j _ (List.getElem?_eq_getElem hj)
  rw [e] at w1
  exact n (w1.inj w2 a b)
def spDrawn (sv mv mc : Int) : Sp := fun vs H Q _ => ∃ (p l : Addr) (cs : List Int), vs = [.ref p] ∧ PoolAt H p l ∧ H l = some (.lst (cs.map V.int)) ∧
  ∀ (H' : Hp) (r : Addr) (rs : List SR) (ms : List MR), SameBut p H H' → PoolAt H' p l → RowsAt H' r rs ms → Drawn sv mv mc rs ms → Q (.ref r) H'
theorem spDrawn.mono {sv mv mc sv' mv' mc' : Int} {vs : List V} {H : Hp} {Q : VK} {E : XK} (h : spDrawn sv' mv' mc' vs H Q E) (h1 : sv ≤ sv') (h2 : mv ≤ mv') (h3 : mc ≤ mc') : spDrawn sv mv mc vs H Q E := by
  obtain ⟨p, l, cs, e, hP, hl, k⟩ := h
  exact ⟨p, l, cs, e, hP, hl, fun H' r rs ms a b c d => k H' r rs ms a b c (d.mono h1 h2 h3)⟩
theorem r_word {H : Hp} {Q : VK} {E : XK} {p l : Addr} {cs : List Int} {n : Int} (P : PoolAt H p l) (hl : H l = some (.lst (cs.map V.int))) (h0 : 0 ≤ n) (h1 : n ≤ 1000)
    (q : ∀ H' z, SameBut p H H' → PoolAt H' p l → WordN cs n z → Q (.str z) H') : spWord [.ref p, .int n] H Q E := ⟨p, l, cs, n, rfl, P, hl, h0, h1, q⟩
end KN
end
section
set_option Elab.async false
set_option linter.all false
set_option maxRecDepth 100000
set_option maxHeartbeats 4000000
set_option pp.maxSteps 1500
set_option pp.deepTerms false
local macro_rules | `(tactic| walk_at "ne") => `(tactic| first
  | assumption | (apply Ne.symm; assumption)
  | exact R.ne_new (by assumption) | exact (R.ne_new (by assumption)).symm
  | exact L2.ne_of_none (by assumption) (by assumption) | exact (L2.ne_of_none (by assumption) (by assumption)).symm
  | exact L2.ne_of_none (by assumption) (R.free_new (by assumption)) | exact (L2.ne_of_none (by assumption) (R.free_new (by assumption))).symm)
local macro_rules | `(tactic| walk_at "at") => `(tactic| first
  | assumption | exact L2.upd_same
  | (refine R.sb (H := ?H) (p := ?p) ?e ?n ?h; (case e => assumption); (case n => walk_at "ne"); (case h => walk_at "at"))
  | (refine R.sm (H := ?H) ?e ?h; (case e => assumption); (case h => walk_at "at"))
  | (refine Eq.trans (L2.upd_ne ?_) ?_ <;> first | walk_at "ne" | walk_at "at"))
local macro_rules | `(tactic| walk_at "sqt") => `(tactic| first | assumption | (refine L2.SqT.of ?_; walk_at "at"))
local macro_rules | `(tactic| walk_at "ty") => `(tactic| first | exact R.tyN | exact R.tyB | exact R.tyI | exact R.tyS | (refine R.tyT (xs := ?xs) ?h; case h => walk_at "at") | (refine R.tyL (xs := ?xs) ?h; case h => walk_at "at"))
local macro_rules | `(tactic| walk_at "kit") => `(tactic| first | exact R.kit_NoneType_tuple | exact R.kit_NoneType_list | exact R.kit_NoneType_bool | exact R.kit_NoneType_str | exact R.kit_NoneType_int | exact R.kit_bool_tuple | exact R.kit_bool_list | exact R.kit_bool_bool | exact R.kit_bool_str | exact R.kit_bool_int | exact R.kit_int_tuple | exact R.kit_int_list | exact R.kit_int_bool | exact R.kit_int_str | exact R.kit_int_int | exact R.kit_str_tuple | exact R.kit_str_list | exact R.kit_str_bool | exact R.kit_str_str | exact R.kit_str_int | exact R.kit_tuple_tuple | exact R.kit_tuple_list | exact R.kit_tuple_bool | exact R.kit_tuple_str | exact R.kit_tuple_int | exact R.kit_list_tuple | exact R.kit_list_list | exact R.kit_list_bool | exact R.kit_list_str | exact R.kit_list_int)
local macro_rules | `(tactic| walk_at "sz") => `(tactic| first | assumption | (refine Nat.le_trans ?_ (show 1000 ≤ PySem.sizeLine by decide); omega) | decide)
local macro_rules | `(tactic| walk_at "szl") => `(tactic| first | assumption | exact Nat.le_of_lt (L2.small1000 (by omega)) | decide | decide +kernel)
local macro_rules | `(tactic| walk_at "sys") => `(tactic| first | assumption | exact KN.SysAt.same (by assumption) (by assumption))
local macro_rules | `(tactic| walk_at "dk") => `(tactic| first | exact R.rowsS _ _ | exact R.rowsM _ _)
local macro_rules | `(tactic| walk_at "sqa") => `(tactic| first | assumption | exact R.SeqA.same (by assumption) (by assumption) | exact R.SeqA.new (by assumption) (by assumption) | (exact Or.inl (by walk_at "at")) | (exact Or.inr (by walk_at "at")))
local macro_rules | `(tactic| walk_at "ix") => `(tactic| first | rfl | (exact L2.atI_nat (by assumption)) | assumption)
local macro_rules | `(tactic| walk_at "cond") => `(tactic| first
  | exact Or.inl (by decide) | exact Or.inr (by decide) | exact Or.inl ⟨by omega, by omega⟩ | exact Or.inr ⟨by omega, by omega⟩
  | (constructor <;> omega) | (show _ ≠ _; omega) | decide | omega)
local macro_rules | `(tactic| walk_at "r1") => `(tactic| first
  | ((with_reducible refine R.var (v := ?v) ?h ?q); case h => rfl)
  | with_reducible apply R.cons
  | with_reducible apply R.c
  | with_reducible apply R.nil
  | with_reducible apply R.op
  | with_reducible apply R.gname
  | with_reducible apply R.seq
  | with_reducible apply R.call
  | with_reducible apply R.asg
  | with_reducible apply R.ex
  | with_reducible apply R.tst
  | with_reducible apply R.i0
  | with_reducible apply R.ifs
  | with_reducible apply R.ret
  | with_reducible apply R.retN
  | with_reducible apply R.drop
  | with_reducible apply R.next
  | with_reducible apply R.tb_
  | with_reducible apply R.eqI
  | with_reducible apply R.neI
  | ((with_reducible refine R.ic ?_ ?_); · walk_at "cond")
  | with_reducible apply R.u0
  | with_reducible apply R.un
  | ((with_reducible refine R.eq ?_ ?_); · rfl)
  | ((with_reducible refine R.ne ?_ ?_); · rfl)
  | with_reducible apply R.and_
  | with_reducible apply R.or_
  | with_reducible apply R.not_
  | with_reducible apply R.ife
  | with_reducible apply R.chain
  | with_reducible apply R.cb
  | with_reducible apply R.bm
  | with_reducible apply R.gsub
  | with_reducible apply R.gnil
  | with_reducible apply R.gcons
  | with_reducible apply R.yes
  | with_reducible apply R.int1
  | ((with_reducible refine R.lenL (xs := ?xs) ?h ?q); case h => walk_at "at")
  | ((with_reducible refine R.ixL (xs := ?xs) (v := ?v) ?h ?e ?q); (case h => walk_at "at"); (case e => walk_at "ix"))
  | ((with_reducible refine R.setL (xs := ?xs) (n := ?n) ?h ?e ?q); (case h => walk_at "at"); (case e => rfl))
  | ((with_reducible refine R.append (xs := ?xs) ?h ?e ?q); (case h => walk_at "at"); (case e => walk_at "cond"))
  | with_reducible apply R.is_
  | with_reducible apply R.isnot
  | with_reducible apply R.andV
  | with_reducible apply R.orV
  | with_reducible apply R.notV
  | ((with_reducible refine R.isi (s := ?s) (b := ?b) ?ty ?h ?q); (case ty => walk_at "ty"); (case h => walk_at "kit"))
  | ((with_reducible refine R.addS ?h ?q); (case h => walk_at "sz"))
  | with_reducible apply R.max2
  | with_reducible apply R.min2
  | ((with_reducible refine R.lenStr ?h ?q); (case h => walk_at "szl"))
  | ((with_reducible refine R.ixS (n := ?n) ?h ?e ?q); (case h => walk_at "szl"); (case e => walk_at "ix"))
  | ((with_reducible refine R.tyl (xs := ?xs) ?h ?q); (case h => walk_at "at"))
  | with_reducible apply R.itlist
  | with_reducible apply R.ittup
  | with_reducible apply R.m1
  | with_reducible apply R.m1s
  | with_reducible apply R.leS
  | with_reducible apply R.itstr
  | with_reducible apply R.itstrE
  | with_reducible apply R.lc
  | with_reducible apply R.lc2
  | with_reducible apply R.ckw
  | with_reducible apply R.par
  | with_reducible apply R.parE
  | with_reducible apply R.itrev
  | with_reducible apply R.dsetd
  | with_reducible apply R.dnotin_
  | with_reducible apply R.for_
  | ((with_reducible refine R.all_ (bs := ?bs) ?h ?q); (case h => walk_at "at"))
  | with_reducible apply R.rng1
  | ((with_reducible refine R.rngE ?h ?q); (case h => (constructor <;> omega)))
  | ((with_reducible refine R.lenT (xs := ?xs) ?h ?q); (case h => walk_at "sqt"))
  | ((with_reducible refine R.ixT (xs := ?xs) (v := ?v) ?h ?e ?q); (case h => walk_at "sqt"); (case e => walk_at "ix"))
  | ((refine R.itlE (xs := ?xs) ?h ?q); (case h => walk_at "at"))
  | ((refine R.ittE (xs := ?xs) ?h ?q); (case h => walk_at "at"))
  | ((refine R.gseq (xs := ?xs) ?h ?e ?q); (case h => walk_at "sqa"); (case e => rfl))
  | ((refine R.ixA (xs := ?xs) (v := ?v) ?h ?e ?q); (case h => walk_at "sqa"); (case e => walk_at "ix"))
  | ((refine R.lenA (xs := ?xs) ?h ?q); (case h => walk_at "sqa"))
  | ((with_reducible refine R.gtup (xs := ?xs) ?h ?e ?q); (case h => walk_at "sqt"); (case e => rfl))
  | with_reducible apply R.din_
  | with_reducible apply R.dput_
  | with_reducible apply R.dget2_
  | ((with_reducible refine R.aug_ (x := ?x) ?h ?q); case h => rfl)
  | with_reducible apply R.ipI_
  | with_reducible apply R.rng2
  | ((with_reducible refine R.rngE2 ?h ?q); (case h => (refine ⟨?_, ?_, ?_, ?_⟩ <;> omega)))
  | with_reducible apply R.brk
  | with_reducible apply R.intB
  | with_reducible apply R.meth_
  | ((refine KN.methS (rs := ?rs) (ms := ?ms) ?h (fun _ _ _ _ => rfl) ?q); case h => walk_at "sys")
  | with_reducible apply R.sl_
  | with_reducible apply R.np_
  | with_reducible apply R.pt_
  | with_reducible apply R.ptE
  | with_reducible apply R.dget_
  | with_reducible apply R.revL_
  | ((refine R.dgetS (kvs := ?kvs) (v := ?v) ?h ?e ?q); (case h => walk_at "at"); (case e => walk_at "dk"))
  | with_reducible apply R.sfld
  | with_reducible apply R.fld_
  | with_reducible apply R.dc
  | with_reducible apply R.dget1_
  | with_reducible apply R.itseq
  | with_reducible apply R.itenum
  | with_reducible apply R.itT
  | with_reducible apply R.itF
  | with_reducible apply R.itNT
  | with_reducible apply R.itNF
  | (with_reducible apply R.tup)
  | (with_reducible apply R.lst))
local macro_rules | `(tactic| walk_at "rd") => `(tactic| (repeat (first | walk_at "r1" | (dsimp only [Int.reduceToNat, List.set_cons_succ, List.set_cons_zero, List.length_cons, List.length_nil, List.nil_append, List.cons_append, List.append_nil]))))
local macro_rules | `(tactic| walk_at "go") => `(tactic| (rw [R.start_eq]; dsimp only [R.startE, List.map_nil]; walk_at "rd"))
namespace KN
open PySem L2 SX R
open C8 (Cal Def cal0 pe_c pe_gc fnScope fnBody pss_cut)
section
variable {P : Program} {w : World} {K : PySem.W.Frag} {mg : Str → Option Value} {base : Heap}
abbrev sDrawn : Stmt := top 37
theorem scDrawn : FnScope ["pool", "simple", "k", "multipliers", "value", "count", "rest", "row"] ["pool"] (fnScope sDrawn) := ⟨rfl, rfl, rfl, by decide +kernel, rfl, by decide +kernel, by decide +kernel⟩
theorem any_none : ∀ ms : List MR, ((ms.map fun r => r.c.isNone).any id) = decide (0 < (ms.filter fun r => r.c.isNone).length)
  | [] => rfl
  | a :: ms => by
    rw [List.map_cons, List.any_cons, any_none ms]
    cases h : a.c.isNone with
    | true => rw [List.filter_cons_of_pos (by exact h)]; simp
    | false => rw [List.filter_cons_of_neg (by rw [h]; exact Bool.false_ne_true)]; simp
structure MOk (r : MR) : Prop where
  v0 : 2 ≤ r.v
  v1 : r.v ≤ 31
  c : ∀ c, r.c = some c → 1 ≤ c ∧ c ≤ 40
  r0 : 0 ≤ r.r
  r1 : r.r < r.v
theorem c_drawn (Z : Zs mg) (c_take : Cal P w K mg base 2 "_law_take" spTake []) (c_word : Cal P w K mg base 3 "_law_word" spWord []) {f : Addr} {fd : FuncData} (F : Def K mg "_law_drawn" sDrawn f fd) (b : Binds K fd ["pool"] []) : Cal P w K mg base 4 "_law_drawn" (spDrawn 30 31 40) [] := by
  refine cal0 F b .nil scDrawn (fun vs H Q E h => ?_) (fun cdv A outer s H vs Q E hr h => ?_)
  · obtain ⟨p, l, cs, rfl, _⟩ := h
    rfl
  · obtain ⟨p, l, cs, rfl, hP, hl, k⟩ := h
    refine ⟨_, pss_cons (ps_set (i := 1) scDrawn.nd rfl (Or.inl rfl) (pe_lst pa_nil))
      (pss_cut (ps_for PassesOwn.never rfl (pi_range1 (by rfl) Z.range (pa_cons (pe_c c_take hr (by omega) (by rfl) (pa_cons (pv 0) (pa_cons pe_int pa_nil))) pa_nil)) (pg_name (i := 2) scDrawn.nd rfl (Or.inl rfl))
        (pss_one (ps_expr (kBM K (pe_bm PySem.F.plainAttrs_list PySem.F.slot_list_append PySem.F.type_list_append mt_append (pv 1) (pa_cons (pe_tup (pa_cons (pe_c c_word hr (by omega) (by rfl) (pa_cons (pv 0) (pa_cons (pv 2) pa_nil))) (pa_cons (pe_op op_add pe_int (pe_c c_take hr (by omega) (by rfl) (pa_cons (pv 0) (pa_cons (pe_ix (kIxT K) (pe_tup (pa_cons pe_int (pa_cons pe_int (pa_cons pe_int pa_nil)))) (pe_c c_take hr (by omega) (by rfl) (pa_cons (pv 0) (pa_cons pe_int pa_nil))) (fun _ _ => rfl)) pa_nil)))) pa_nil))) pa_nil))))))
      (pss_cons (ps_set (i := 3) scDrawn.nd rfl (Or.inl rfl) (pe_lst pa_nil))
      (pss_cons (ps_for PassesOwn.never rfl (pi_range1 (by rfl) Z.range (pa_cons (pe_c c_take hr (by omega) (by rfl) (pa_cons (pv 0) (pa_cons pe_int pa_nil))) pa_nil)) (pg_name (i := 2) scDrawn.nd rfl (Or.inl rfl))
        (pss_cons (ps_set (i := 4) scDrawn.nd rfl (Or.inl rfl) (pe_op op_add pe_int (pe_c c_take hr (by omega) (by rfl) (pa_cons (pv 0) (pa_cons (pe_ix (kIxT K) (pe_tup (pa_cons pe_int (pa_cons pe_int (pa_cons pe_int pa_nil)))) (pe_c c_take hr (by omega) (by rfl) (pa_cons (pv 0) (pa_cons pe_int pa_nil))) (fun _ _ => rfl)) pa_nil)))))
      (pss_cons (ps_set (i := 5) scDrawn.nd rfl (Or.inl rfl) (pe_op op_add pe_int (pe_c c_take hr (by omega) (by rfl) (pa_cons (pv 0) (pa_cons (pe_ix (kIxT K) (pe_tup (pa_cons pe_int (pa_cons pe_int (pa_cons pe_int pa_nil)))) (pe_c c_take hr (by omega) (by rfl) (pa_cons (pv 0) (pa_cons pe_int pa_nil))) (fun _ _ => rfl)) pa_nil)))))
      (pss_cut (ps_if (PW.pt (pw_and (pt_cmpR op_eq (pe_c c_take hr (by omega) (by rfl) (pa_cons (pv 0) (pa_cons pe_int pa_nil))) pe_int (nomark _)) (pw_and1 (pt_not (pt_val (pe_callB (kAny K) (by rfl) Z.any (by decide +kernel) (pa_cons (pe_lc (own := [("row", 7)]) (g := gName 7) (tt := tYes) rfl scDrawn.nd (kiL K (pv 3)) (blkOk_by (own := [("row", 7)]) (N := ["pool", "simple", "k", "multipliers", "value", "count", "rest", "row"]) (sc := fnScope sDrawn) (by decide +kernel)) (fun _ _ _ _ _ => (pg_name (i := 7) scDrawn.nd rfl (Or.inl rfl))) (fun _ _ _ _ _ => pts_nil) (fun _ _ _ _ _ => pe_cmpR oIs (pe_ix (kIxT K) (pv 7) pe_int (fun _ _ => rfl)) pe_non (nomark _))) pa_nil)))))))
        (pss_one (ps_set (i := 5) scDrawn.nd rfl (Or.inl rfl) pe_non))
        (pss_nil))
      (pss_cons (ps_set (i := 6) scDrawn.nd rfl (Or.inl rfl) (pe_ix (kIxT K) (pe_tup (pa_cons pe_int (pa_cons (pe_op op_sub (pv 4) pe_int) (pa_cons (pe_c c_take hr (by omega) (by rfl) (pa_cons (pv 0) (pa_cons (pv 4) pa_nil))) pa_nil)))) (pe_c c_take hr (by omega) (by rfl) (pa_cons (pv 0) (pa_cons pe_int pa_nil))) (fun _ _ => rfl)))
      (pss_one (ps_expr (kBM K (pe_bm PySem.F.plainAttrs_list PySem.F.slot_list_append PySem.F.type_list_append mt_append (pv 3) (pa_cons (pe_tup (pa_cons (pe_c c_word hr (by omega) (by rfl) (pa_cons (pv 0) (pa_cons (pe_op op_add pe_int (pv 2)) pa_nil))) (pa_cons (pv 4) (pa_cons (pv 5) (pa_cons (pe_cmpR op_eq (pe_c c_take hr (by omega) (by rfl) (pa_cons (pv 0) (pa_cons pe_int pa_nil))) pe_int (nomark _)) (pa_cons (pv 6) pa_nil)))))) pa_nil))))))))))
      (pss_one (ps_ret (pe_disp (pps_cons pe_str (pv 1) (pps_cons pe_str (pv 3) pps_nil)) rfl rfl (by intro h; cases h) (by decide))))))), ?_⟩
    walk_at "go"
    refine ⟨by decide, fun s hs => ?_⟩
    have R0 := DL.of hP hl SameBut.refl hP hs
    generalize upd H s (.lst []) = H1 at R0
    walk_at "rd"
    refine R.cut (fun σ' H' => ∃ (kv : Option V) (rs : List SR) (xs : List V), σ' = [some (.ref p), some (.ref s), kv, none, none, none, none, none] ∧
      DL H H' p l s cs xs (rs.map srV) ∧ rs.length ≤ 5 ∧ (∀ (i : Nat) (r : SR), rs[i]? = some r → WordN cs (i : Nat) r.w) ∧ ∀ r ∈ rs, 1 ≤ r.v ∧ r.v ≤ 30) ?_ ?_
    · walk_at "rd"
      refine r_take' R0.P (by omega) (by omega) (fun H2 n e2 P2 n0 n1 => ?_)
      have R2 := R0.take e2 P2
      walk_at "rd"
      refine for_it walk_range (fun i σ' H' => ∃ (kv : Option V) (rs : List SR) (xs : List V), σ' = [some (.ref p), some (.ref s), kv, none, none, none, none, none] ∧
        DL H H' p l s cs xs (rs.map srV) ∧ rs.length = i ∧ (∀ (i : Nat) (r : SR), rs[i]? = some r → WordN cs (i : Nat) r.w) ∧ ∀ r ∈ rs, 1 ≤ r.v ∧ r.v ≤ 30) ⟨none, [], [], rfl, R2, rfl, (fun i r h => nomatch h), fun r h => nomatch h⟩ (fun _ _ _ _ _ => trivial) ?_ ?_
      · rintro i x σ' H3 H3' hi ⟨kv, rs, xs, rfl, R3, hlen, hw, hv⟩ ⟨rfl, rfl⟩
        have hs3 := R3.hs
        walk_at "rd"
        refine r_word R3.P R3.hl (by omega) (by omega) (fun H4 z e4 P4 wz => ?_)
        have R4 := R3.take e4 P4
        walk_at "rd"
        refine ⟨by decide, fun t ht => R.gen ht fun H5 s5 ht5 => ?_⟩
        have tp := (R4.P.nep ht).1
        have R5 := R4.same s5
        walk_at "rd"
        refine r_take' R5.P (by decide) (by decide) (fun H6 d6 e6 P6 l6 u6 => ?_)
        have R6 := R5.take e6 P6
        have ht6 := e6 _ _ tp ht5
        obtain ⟨v, hv1, ev⟩ := atI_in (xs := [V.int 4, .int 9, .int 30]) l6 u6
        obtain ⟨h4, rfl, h40, h41⟩ : ∃ h4 : Int, v = .int h4 ∧ 4 ≤ h4 ∧ h4 ≤ 30 := by
          simp only [List.mem_cons, List.not_mem_nil, or_false] at hv1
          rcases hv1 with rfl | rfl | rfl <;> exact ⟨_, rfl, by decide, by decide⟩
        walk_at "rd"
        refine r_take' R6.P (by omega) (by omega) (fun H7 d7 e7 P7 l7 u7 => ?_)
        have R7 := R6.take e7 P7
        walk_at "rd"
        refine ⟨by decide, fun a ha => R.gen ha fun H8 s8 ha8 => ?_⟩
        have R8 := R7.same s8
        have hxl : xs.length < 100 := by have := R8.ts.len; rw [List.length_map] at this; omega
        walk_at "rd"
        refine R.append R8.hs (small1000 (by omega)) ?_
        walk_at "rd"
        rw [Int.zero_add] at wz
        refine ⟨_, rs ++ [⟨z, 1 + d7⟩], xs ++ [.ref a], rfl, ?_, by simp [hlen], fun j r hr => ?_, fun r hr => ?_⟩
        · rw [List.map_append]
          exact R8.app ha8
        · by_cases h : j < rs.length
          · rw [List.getElem?_append_left h] at hr
            exact hw j r hr
          · have hj : j = rs.length := by
              have := (List.getElem?_eq_some_iff.mp hr).1
              rw [List.length_append] at this
              simp only [List.length_cons, List.length_nil] at this
              omega
            subst hj
            rw [List.getElem?_append_right (Nat.le_refl _), Nat.sub_self] at hr
            cases hr
            rw [hlen]
            exact wz
        · rcases List.mem_append.mp hr with h | h
          · exact hv r h
          · rw [List.mem_singleton.mp h]
            exact ⟨by show 1 ≤ 1 + d7; omega, by show 1 + d7 ≤ 30; omega⟩
      · rintro σ' H3 ⟨kv, rs, xs, rfl, R3, hlen, hw, hv⟩
        exact ⟨kv, rs, xs, rfl, R3, by omega, hw, hv⟩
    · rintro σ' H3 ⟨kv, rs, xs, rfl, R3, hlen, hw, hv⟩
      walk_at "rd"
      refine ⟨by decide, fun m hm => ?_⟩
      have M0 := DM.of R3 hm
      generalize upd H3 m (.lst []) = H4 at M0
      walk_at "rd"
      refine r_take' M0.R.P (by omega) (by omega) (fun H5 n e5 P5 n0 n1 => ?_)
      have M5 := M0.take e5 P5
      walk_at "rd"
      refine for_it walk_range (fun i σ' H' => ∃ (kv vv cv rv : Option V) (ms : List MR) (ys : List V), σ' = [some (.ref p), some (.ref s), kv, some (.ref m), vv, cv, rv, none] ∧
        DM H H' p l s m cs xs (rs.map srV) ys (ms.map mrV) ∧ ms.length = i ∧ (∀ (i : Nat) (r : MR), ms[i]? = some r → WordN cs (10 + (i : Nat)) r.w) ∧ (∀ r ∈ ms, MOk r) ∧ (ms.filter fun r => r.c.isNone).length ≤ 1)
        ⟨kv, none, none, none, [], [], rfl, M5, rfl, (fun i r h => nomatch h), (fun r h => nomatch h), Nat.zero_le _⟩ (fun _ _ _ _ _ => trivial) ?_ ?_
      · rintro i x σ' H6 H6' hi ⟨kv, vv, cv, rv, ms, ys, rfl, M6, hml, hmw, hmo, hone⟩ ⟨rfl, rfl⟩
        walk_at "rd"
        refine ⟨by decide, fun t ht => R.gen ht fun H7 s7 ht7 => ?_⟩
        have tp := (M6.R.P.nep ht).1
        have M7 := M6.same s7
        walk_at "rd"
        refine r_take' M7.R.P (by omega) (by omega) (fun H8 d8 e8 P8 l8 u8 => ?_)
        have M8 := M7.take e8 P8
        have ht8 := e8 _ _ tp ht7
        obtain ⟨v, hv1, ev⟩ := atI_in (xs := [V.int 3, .int 9, .int 30]) l8 u8
        obtain ⟨h4, rfl, h40, h41⟩ : ∃ h4 : Int, v = .int h4 ∧ 3 ≤ h4 ∧ h4 ≤ 30 := by
          simp only [List.mem_cons, List.not_mem_nil, or_false] at hv1
          rcases hv1 with rfl | rfl | rfl <;> exact ⟨_, rfl, by decide, by decide⟩
        walk_at "rd"
        refine r_take' M8.R.P (by omega) (by omega) (fun H9 d9 e9 P9 l9 u9 => ?_)
        have M9 := M8.take e9 P9
        walk_at "rd"
        refine ⟨by decide, fun t2 ht2 => R.gen ht2 fun H10 s10 ht10 => ?_⟩
        have tp2 := (M9.R.P.nep ht2).1
        have M10 := M9.same s10
        walk_at "rd"
        refine r_take' M10.R.P (by omega) (by omega) (fun H11 d11 e11 P11 l11 u11 => ?_)
        have M11 := M10.take e11 P11
        have ht11 := e11 _ _ tp2 ht10
        obtain ⟨v', hv1', ev'⟩ := atI_in (xs := [V.int 3, .int 9, .int 40]) l11 u11
        obtain ⟨h5, rfl, h50, h51⟩ : ∃ h4 : Int, v' = .int h4 ∧ 3 ≤ h4 ∧ h4 ≤ 40 := by
          simp only [List.mem_cons, List.not_mem_nil, or_false] at hv1'
          rcases hv1' with rfl | rfl | rfl <;> exact ⟨_, rfl, by decide, by decide⟩
        walk_at "rd"
        refine r_take' M11.R.P (by omega) (by omega) (fun H12 d12 e12 P12 l12 u12 => ?_)
        have M12 := M11.take e12 P12
        walk_at "rd"
        refine R.cut (fun σ' H' => ∃ c : Option Int, σ' = [some (.ref p), some (.ref s), some (.int (0 + (i : Nat))), some (.ref m), some (.int (2 + d9)), some (ocnt c), rv, none] ∧
          DM H H' p l s m cs xs (rs.map srV) ys (ms.map mrV) ∧ (∀ c', c = some c' → 1 ≤ c' ∧ c' ≤ 40) ∧ (c = none → (ms.filter fun r => r.c.isNone).length = 0)) ?_ ?_
        · walk_at "rd"
          refine r_take' M12.R.P (by omega) (by omega) (fun H13 d13 e13 P13 l13 u13 => ?_)
          have M13 := M12.take e13 P13
          have hm13 := M13.hm
          have stay : ∀ G, Same H13 G → ∃ c : Option Int, [some (V.ref p), some (.ref s), some (.int (0 + (i : Nat))), some (.ref m), some (.int (2 + d9)), some (.int (1 + d12)), rv, none] = [some (.ref p), some (.ref s), some (.int (0 + (i : Nat))), some (.ref m), some (.int (2 + d9)), some (ocnt c), rv, none] ∧
            DM H G p l s m cs xs (rs.map srV) ys (ms.map mrV) ∧ (∀ c', c = some c' → 1 ≤ c' ∧ c' ≤ 40) ∧ (c = none → (ms.filter fun r => r.c.isNone).length = 0) :=
            fun G g => ⟨some (1 + d12), rfl, M13.same g, fun c' h => by cases h; omega, fun h => nomatch h⟩
          walk_at "rd"
          refine it (fun h1 => ?_) (fun h1 => ?_)
          · walk_at "rd"
            intro D hD
            have hyl : ys.length = ms.length := by have := M13.tm.len; rwa [List.length_map] at this
            refine lc_it (walk_list (K := K) (a := m) (xs := ys)) (fun j H' => Same H13 H' ∧ H' D = some (.lst (((ms.take j).map fun r => r.c.isNone).map V.bl))) ⟨same_new (Same.refl _) hD, upd_same⟩ (fun j H' _ hh => SqL.of (hh.1 _ _ hm13)) ?_ ?_
            · rintro j x H14 H14' hj ⟨s14, hD14⟩ ⟨rfl, hx⟩
              have hj' : j < ms.length := by omega
              have hmj : ms[j]? = some ms[j] := List.getElem?_eq_getElem hj'
              obtain ⟨a, hya, ha⟩ := M13.tm.get j (mrV ms[j]) (by rw [List.getElem?_map, hmj]; rfl)
              rw [hya] at hx
              cases hx
              have ha14 := s14 _ _ ha
              have et : ms.take (j + 1) = ms.take j ++ [ms[j]] := by rw [List.take_add_one, hmj]; rfl
              refine R.gname ⟨rfl, ?_⟩
              walk_at "rd"
              refine ⟨_, hD14, small1000 (by rw [List.length_map, List.length_map, List.length_take]; omega), same_put s14 hD, ?_⟩
              rw [upd_same, et, List.map_append, List.map_append]
              have en : decide (ocnt ms[j].c = V.non) = ms[j].c.isNone := by
                cases h : ms[j].c with
                | none => rfl
                | some c => rfl
              rw [en]
              rfl
            · rintro H14 ⟨s14, hD14⟩
              rw [hyl, List.take_of_length_le (Nat.le_refl _)] at hD14
              walk_at "rd"
              refine R.any_ hD14 ?_
              refine ⟨_, rfl, ?_⟩
              have ea := any_none ms
              rw [ea]
              walk_at "rd"
              refine itn (fun h2 => ?_) (fun h2 => ?_)
              · walk_at "rd"
                exact ⟨none, rfl, M13.same s14, (fun c' h => nomatch h), fun _ => by omega⟩
              · walk_at "rd"
                exact stay _ s14
          · walk_at "rd"
            exact stay _ (Same.refl _)
        · rintro σ' H13 ⟨c, rfl, M13, hc1, hc2⟩
          walk_at "rd"
          refine r_take' M13.R.P (by omega) (by omega) (fun H14 d14 e14 P14 l14 u14 => ?_)
          have M14 := M13.take e14 P14
          walk_at "rd"
          refine ⟨by decide, fun t3 ht3 => R.gen ht3 fun H15 s15 ht15 => ?_⟩
          have tp3 := (M14.R.P.nep ht3).1
          have M15 := M14.same s15
          walk_at "rd"
          refine r_take' M15.R.P (by omega) (by omega) (fun H16 d16 e16 P16 l16 u16 => ?_)
          have M16 := M15.take e16 P16
          have ht16 := e16 _ _ tp3 ht15
          obtain ⟨v'', hv2, ev2⟩ := atI_in (xs := [V.int 0, .int (2 + d9 - 1), .int d14]) l16 u16
          obtain ⟨rr, rfl, rr0, rr1⟩ : ∃ rr : Int, v'' = .int rr ∧ 0 ≤ rr ∧ rr < 2 + d9 := by
            simp only [List.mem_cons, List.not_mem_nil, or_false] at hv2
            rcases hv2 with rfl | rfl | rfl
            · exact ⟨_, rfl, by omega, by omega⟩
            · exact ⟨_, rfl, by omega, by omega⟩
            · exact ⟨_, rfl, by omega, by omega⟩
          have hm16 := M16.hm
          walk_at "rd"
          refine r_word M16.R.P M16.R.hl (by omega) (by omega) (fun H17 z e17 P17 wz => ?_)
          have M17 := M16.take e17 P17
          walk_at "rd"
          refine r_take' M17.R.P (by omega) (by omega) (fun H18 d18 e18 P18 l18 u18 => ?_)
          have M18 := M17.take e18 P18
          walk_at "rd"
          refine ⟨by decide, fun a ha => R.gen ha fun H19 s19 ha19 => ?_⟩
          have M19 := M18.same s19
          have hyl : ys.length = ms.length := by have := M19.tm.len; rwa [List.length_map] at this
          walk_at "rd"
          refine R.append M19.hm (small1000 (by omega)) ?_
          walk_at "rd"
          rw [Int.zero_add] at wz
          have gw := wz.good
          refine ⟨some (.int (0 + (i : Nat))), some (.int (2 + d9)), some (ocnt c), some (.int rr), ms ++ [⟨z, 2 + d9, c, decide (d18 = 1), rr⟩], ys ++ [.ref a], rfl, ?_, by simp [hml], fun j r hr => ?_, fun r hr => ?_, ?_⟩
          · rw [List.map_append]
            exact M19.app ha19
          · by_cases h : j < ms.length
            · rw [List.getElem?_append_left h] at hr
              exact hmw j r hr
            · have hj : j = ms.length := by
                have := (List.getElem?_eq_some_iff.mp hr).1
                rw [List.length_append] at this
                simp only [List.length_cons, List.length_nil] at this
                omega
              subst hj
              rw [List.getElem?_append_right (Nat.le_refl _), Nat.sub_self] at hr
              cases hr
              rw [hml]
              exact wz
          · rcases List.mem_append.mp hr with h | h
            · exact hmo r h
            · rw [List.mem_singleton.mp h]
              exact ⟨by show 2 ≤ 2 + d9; omega, by show 2 + d9 ≤ 31; omega, hc1, rr0, rr1⟩
          · rw [List.filter_append, List.length_append]
            cases c with
            | none => have := hc2 rfl; rw [this]; exact Nat.le_refl _
            | some c' => exact hone
      · rintro σ' H6 ⟨kv, vv, cv, rv, ms, ys, rfl, M6, hml, hmw, hmo, hone⟩
        walk_at "rd"
        refine disp fun t ht => R.gen ht fun H7 s7 ht7 => ?_
        have M7 := M6.same s7
        have hs7 := M7.R.hs
        have hm7 := M7.hm
        unfold tPairs
        walk_at "rd"
        unfold tPairs
        walk_at "rd"
        unfold tPairs
        refine ⟨ht7, rowsKs s m, rfl, by show 2 ≤ 15; decide, ?_⟩
        rw [rowsMerge]
        have sb7 := M7.R.sb
        have t0 : H t = none := M6.R.nil0 ht
        obtain ⟨tp, tl⟩ := M6.R.P.nep ht
        have ts' : s ≠ t := (ne_of_none M6.R.hs ht)
        have tm' : m ≠ t := (ne_of_none M6.hm ht)
        refine k _ t rs ms (sb7.put' t0) (M7.R.P.put tp tl) ⟨s, m, xs, ys, upd_same, by rw [upd_ne ts']; exact hs7, M7.R.ts.keep (fun a d h => ?_), by rw [upd_ne tm']; exact hm7, M7.tm.keep (fun a d h => ?_)⟩ ⟨⟨?_, ?_, ?_, ?_, ?_, hone⟩, fun r hr => (hv r hr).2, fun r hr => (hmo r hr).v1, fun r hr c hc => ((hmo r hr).c c hc).2, by omega, fun z hz => ?_⟩
        · rw [upd_ne (ne_of h ht7 (by intro z; cases z))]; exact h
        · rw [upd_ne (ne_of h ht7 (by intro z; cases z))]; exact h
        · intro r hr
          obtain ⟨i, hi, he⟩ := List.mem_iff_getElem.mp hr
          exact ⟨(hw i r (by rw [List.getElem?_eq_getElem hi, he])).good, (hv r hr).1, by have := (hv r hr).2; omega⟩
        · intro r hr
          obtain ⟨i, hi, he⟩ := List.mem_iff_getElem.mp hr
          have o := hmo r hr
          have o1 := o.v1
          have o2 := o.r1
          have o3 := o.v0
          exact ⟨(hmw i r (by rw [List.getElem?_eq_getElem hi, he])).good, o.v0, by omega, fun c hc => ⟨(o.c c hc).1, by have := (o.c c hc).2; omega, by
            have := (o.c c hc).2
            have q : c * r.v ≤ 40 * 31 := Int.mul_le_mul this o1 (by omega) (by omega)
            omega⟩, o.r0, o.r1⟩
        · refine nodupW (cs := cs) (fun i => if i < rs.length then (i : Nat) else 10 + ((i - rs.length : Nat) : Int)) (fun i z hz => ?_) (fun i j hij hj => ?_)
          · by_cases h : i < rs.length
            · rw [if_pos h]
              rw [List.getElem?_append_left (by rw [List.length_map]; exact h), List.getElem?_map] at hz
              cases e : rs[i]? with
              | none => rw [e] at hz; cases hz
              | some r => rw [e] at hz; cases hz; exact hw i r e
            · rw [if_neg h]
              rw [List.getElem?_append_right (by rw [List.length_map]; omega), List.getElem?_map, List.length_map] at hz
              cases e : ms[i - rs.length]? with
              | none => rw [e] at hz; cases hz
              | some r => rw [e] at hz; cases hz; exact hmw _ r e
          · rw [List.length_append, List.length_map, List.length_map] at hj
            split <;> split <;> omega
        · omega
        · omega
        · rcases List.mem_append.mp hz with h | h
          · obtain ⟨r, hr, rfl⟩ := List.mem_map.mp h
            obtain ⟨i, hi, he⟩ := List.mem_iff_getElem.mp hr
            exact (hw i r (by rw [List.getElem?_eq_getElem hi, he])).fst
          · obtain ⟨r, hr, rfl⟩ := List.mem_map.mp h
            obtain ⟨i, hi, he⟩ := List.mem_iff_getElem.mp hr
            exact (hmw i r (by rw [List.getElem?_eq_getElem hi, he])).fst
end
end KN
end
section
set_option Elab.async false
set_option linter.all false
set_option maxRecDepth 100000
set_option maxHeartbeats 4000000
set_option pp.maxSteps 1500
set_option pp.deepTerms false
local macro_rules | `(tactic| walk_at "ne") => `(tactic| first
  | assumption | (apply Ne.symm; assumption)
  | exact R.ne_new (by assumption) | exact (R.ne_new (by assumption)).symm
  | exact L2.ne_of_none (by assumption) (by assumption) | exact (L2.ne_of_none (by assumption) (by assumption)).symm
  | exact L2.ne_of_none (by assumption) (R.free_new (by assumption)) | exact (L2.ne_of_none (by assumption) (R.free_new (by assumption))).symm)
local macro_rules | `(tactic| walk_at "at") => `(tactic| first
  | assumption | exact L2.upd_same
  | (refine R.sb (H := ?H) (p := ?p) ?e ?n ?h; (case e => assumption); (case n => walk_at "ne"); (case h => walk_at "at"))
  | (refine R.sm (H := ?H) ?e ?h; (case e => assumption); (case h => walk_at "at"))
  | (refine Eq.trans (L2.upd_ne ?_) ?_ <;> first | walk_at "ne" | walk_at "at"))
local macro_rules | `(tactic| walk_at "sqt") => `(tactic| first | assumption | (refine L2.SqT.of ?_; walk_at "at"))
local macro_rules | `(tactic| walk_at "ty") => `(tactic| first | exact R.tyN | exact R.tyB | exact R.tyI | exact R.tyS | (refine R.tyT (xs := ?xs) ?h; case h => walk_at "at") | (refine R.tyL (xs := ?xs) ?h; case h => walk_at "at"))
local macro_rules | `(tactic| walk_at "kit") => `(tactic| first | exact R.kit_NoneType_tuple | exact R.kit_NoneType_list | exact R.kit_NoneType_bool | exact R.kit_NoneType_str | exact R.kit_NoneType_int | exact R.kit_bool_tuple | exact R.kit_bool_list | exact R.kit_bool_bool | exact R.kit_bool_str | exact R.kit_bool_int | exact R.kit_int_tuple | exact R.kit_int_list | exact R.kit_int_bool | exact R.kit_int_str | exact R.kit_int_int | exact R.kit_str_tuple | exact R.kit_str_list | exact R.kit_str_bool | exact R.kit_str_str | exact R.kit_str_int | exact R.kit_tuple_tuple | exact R.kit_tuple_list | exact R.kit_tuple_bool | exact R.kit_tuple_str | exact R.kit_tuple_int | exact R.kit_list_tuple | exact R.kit_list_list | exact R.kit_list_bool | exact R.kit_list_str | exact R.kit_list_int)
local macro_rules | `(tactic| walk_at "sz") => `(tactic| first | assumption | (refine Nat.le_trans ?_ (show 1000 ≤ PySem.sizeLine by decide); omega) | decide)
local macro_rules | `(tactic| walk_at "szl") => `(tactic| first | assumption | exact Nat.le_of_lt (L2.small1000 (by omega)) | decide | decide +kernel)
local macro_rules | `(tactic| walk_at "sys") => `(tactic| first | assumption | exact KN.SysAt.same (by assumption) (by assumption))
local macro_rules | `(tactic| walk_at "dk") => `(tactic| first | exact R.rowsS _ _ | exact R.rowsM _ _)
local macro_rules | `(tactic| walk_at "sqa") => `(tactic| first | assumption | exact R.SeqA.same (by assumption) (by assumption) | exact R.SeqA.new (by assumption) (by assumption) | (exact Or.inl (by walk_at "at")) | (exact Or.inr (by walk_at "at")))
local macro_rules | `(tactic| walk_at "ix") => `(tactic| first | rfl | (exact L2.atI_nat (by assumption)) | assumption)
local macro_rules | `(tactic| walk_at "cond") => `(tactic| first
  | exact Or.inl (by decide) | exact Or.inr (by decide) | exact Or.inl ⟨by omega, by omega⟩ | exact Or.inr ⟨by omega, by omega⟩
  | (constructor <;> omega) | (show _ ≠ _; omega) | decide | omega)
local macro_rules | `(tactic| walk_at "r1") => `(tactic| first
  | ((with_reducible refine R.var (v := ?v) ?h ?q); case h => rfl)
  | with_reducible apply R.cons
  | with_reducible apply R.c
  | with_reducible apply R.nil
  | with_reducible apply R.op
  | with_reducible apply R.gname
  | with_reducible apply R.seq
  | with_reducible apply R.call
  | with_reducible apply R.asg
  | with_reducible apply R.ex
  | with_reducible apply R.tst
  | with_reducible apply R.i0
  | with_reducible apply R.ifs
  | with_reducible apply R.ret
  | with_reducible apply R.retN
  | with_reducible apply R.drop
  | with_reducible apply R.next
  | with_reducible apply R.tb_
  | with_reducible apply R.eqI
  | with_reducible apply R.neI
  | ((with_reducible refine R.ic ?_ ?_); · walk_at "cond")
  | with_reducible apply R.u0
  | with_reducible apply R.un
  | ((with_reducible refine R.eq ?_ ?_); · rfl)
  | ((with_reducible refine R.ne ?_ ?_); · rfl)
  | with_reducible apply R.and_
  | with_reducible apply R.or_
  | with_reducible apply R.not_
  | with_reducible apply R.ife
  | with_reducible apply R.chain
  | with_reducible apply R.cb
  | with_reducible apply R.bm
  | with_reducible apply R.gsub
  | with_reducible apply R.gnil
  | with_reducible apply R.gcons
  | with_reducible apply R.yes
  | with_reducible apply R.int1
  | ((with_reducible refine R.lenL (xs := ?xs) ?h ?q); case h => walk_at "at")
  | ((with_reducible refine R.ixL (xs := ?xs) (v := ?v) ?h ?e ?q); (case h => walk_at "at"); (case e => walk_at "ix"))
  | ((with_reducible refine R.setL (xs := ?xs) (n := ?n) ?h ?e ?q); (case h => walk_at "at"); (case e => rfl))
  | ((with_reducible refine R.append (xs := ?xs) ?h ?e ?q); (case h => walk_at "at"); (case e => walk_at "cond"))
  | with_reducible apply R.is_
  | with_reducible apply R.isnot
  | with_reducible apply R.andV
  | with_reducible apply R.orV
  | with_reducible apply R.notV
  | ((with_reducible refine R.isi (s := ?s) (b := ?b) ?ty ?h ?q); (case ty => walk_at "ty"); (case h => walk_at "kit"))
  | ((with_reducible refine R.addS ?h ?q); (case h => walk_at "sz"))
  | with_reducible apply R.max2
  | with_reducible apply R.min2
  | ((with_reducible refine R.lenStr ?h ?q); (case h => walk_at "szl"))
  | ((with_reducible refine R.ixS (n := ?n) ?h ?e ?q); (case h => walk_at "szl"); (case e => walk_at "ix"))
  | ((with_reducible refine R.tyl (xs := ?xs) ?h ?q); (case h => walk_at "at"))
  | with_reducible apply R.itlist
  | with_reducible apply R.ittup
  | with_reducible apply R.m1
  | with_reducible apply R.m1s
  | with_reducible apply R.leS
  | with_reducible apply R.itstr
  | with_reducible apply R.itstrE
  | with_reducible apply R.lc
  | with_reducible apply R.lc2
  | with_reducible apply R.ckw
  | with_reducible apply R.par
  | with_reducible apply R.parE
  | with_reducible apply R.itrev
  | with_reducible apply R.dsetd
  | with_reducible apply R.dnotin_
  | with_reducible apply R.for_
  | ((with_reducible refine R.all_ (bs := ?bs) ?h ?q); (case h => walk_at "at"))
  | with_reducible apply R.rng1
  | ((with_reducible refine R.rngE ?h ?q); (case h => (constructor <;> omega)))
  | ((with_reducible refine R.lenT (xs := ?xs) ?h ?q); (case h => walk_at "sqt"))
  | ((with_reducible refine R.ixT (xs := ?xs) (v := ?v) ?h ?e ?q); (case h => walk_at "sqt"); (case e => walk_at "ix"))
  | ((refine R.itlE (xs := ?xs) ?h ?q); (case h => walk_at "at"))
  | ((refine R.ittE (xs := ?xs) ?h ?q); (case h => walk_at "at"))
  | ((refine R.gseq (xs := ?xs) ?h ?e ?q); (case h => walk_at "sqa"); (case e => rfl))
  | ((refine R.ixA (xs := ?xs) (v := ?v) ?h ?e ?q); (case h => walk_at "sqa"); (case e => walk_at "ix"))
  | ((refine R.lenA (xs := ?xs) ?h ?q); (case h => walk_at "sqa"))
  | ((with_reducible refine R.gtup (xs := ?xs) ?h ?e ?q); (case h => walk_at "sqt"); (case e => rfl))
  | with_reducible apply R.din_
  | with_reducible apply R.dput_
  | with_reducible apply R.dget2_
  | ((with_reducible refine R.aug_ (x := ?x) ?h ?q); case h => rfl)
  | with_reducible apply R.ipI_
  | with_reducible apply R.rng2
  | ((with_reducible refine R.rngE2 ?h ?q); (case h => (refine ⟨?_, ?_, ?_, ?_⟩ <;> omega)))
  | with_reducible apply R.brk
  | with_reducible apply R.intB
  | with_reducible apply R.meth_
  | ((refine KN.methS (rs := ?rs) (ms := ?ms) ?h (fun _ _ _ _ => rfl) ?q); case h => walk_at "sys")
  | with_reducible apply R.sl_
  | with_reducible apply R.np_
  | with_reducible apply R.pt_
  | with_reducible apply R.ptE
  | with_reducible apply R.dget_
  | with_reducible apply R.revL_
  | ((refine R.dgetS (kvs := ?kvs) (v := ?v) ?h ?e ?q); (case h => walk_at "at"); (case e => walk_at "dk"))
  | with_reducible apply R.sfld
  | with_reducible apply R.fld_
  | with_reducible apply R.dc
  | with_reducible apply R.dget1_
  | with_reducible apply R.itseq
  | with_reducible apply R.itenum
  | with_reducible apply R.itT
  | with_reducible apply R.itF
  | with_reducible apply R.itNT
  | with_reducible apply R.itNF
  | (with_reducible apply R.tup)
  | (with_reducible apply R.lst))
local macro_rules | `(tactic| walk_at "rd") => `(tactic| (repeat (first | walk_at "r1" | (dsimp only [Int.reduceToNat, List.set_cons_succ, List.set_cons_zero, List.length_cons, List.length_nil, List.nil_append, List.cons_append, List.append_nil]))))
local macro_rules | `(tactic| walk_at "go") => `(tactic| (rw [R.start_eq]; dsimp only [R.startE, List.map_nil]; walk_at "rd"))
namespace KN
open PySem L2 SX R
open C8 (Cal Def cal0 pe_c pe_gc fnScope fnBody pss_cut)
section
variable {P : Program} {w : World} {K : PySem.W.Frag} {mg : Str → Option Value} {base : Heap}
abbrev sRegular : Stmt := top 38
theorem scRegular : FnScope ["pool", "base", "is_unsaid", "simple", "multipliers", "value", "k"] ["pool"] (fnScope sRegular) := ⟨rfl, rfl, rfl, by decide +kernel, rfl, by decide +kernel, by decide +kernel⟩
/-- the numbers below a base, and its powers -/
structure RegShape (b : Int) (k : Nat) (u : Bool) (rs : List SR) (ms : List MR) : Prop where
  b0 : 2 ≤ b
  b1 : b ≤ 6
  k1 : k ≤ 2
  sl : (rs.length : Int) = b - 1
  sv : ∀ (i : Nat) (r : SR), rs[i]? = some r → r.v = (i : Nat) + 1
  ml : ms.length = k + 1
  mv : ∀ (i : Nat) (m : MR), ms[i]? = some m → m.v = b ^ (i + 1) ∧ m.r = m.v - 1
  mkk : ∀ (i : Nat) (m : MR), ms[i]? = some m → i < k → m.c = some (b - 1) ∧ m.u = u
  me : ∀ m : MR, ms[k]? = some m → m.c = none
def spReg : Sp := fun vs H Q _ => ∃ (p l : Addr) (cs : List Int), vs = [.ref p] ∧ PoolAt H p l ∧ H l = some (.lst (cs.map V.int)) ∧
  ∀ (H' : Hp) (r s m : Addr) (xs ys : List V) (rs : List SR) (ms : List MR) (b : Int) (k : Nat) (u : Bool), SameBut p H H' → PoolAt H' p l → H m = none → s ≠ m → H' r = some (.dK (rowsKs s m)) → H' s = some (.lst xs) → TupsAt H' xs (rs.map srV) →
    H' m = some (.lst ys) → TupsAt H' ys (ms.map mrV) → Drawn 5 216 5 rs ms → RegShape b k u rs ms → Q (.ref r) H'
theorem pow6 {b : Int} {i : Nat} (b0 : 2 ≤ b) (b1 : b ≤ 6) (hi : i ≤ 2) : 2 ≤ b ^ (i + 1) ∧ b ^ (i + 1) ≤ 216 := by
  have hb : b = 2 ∨ b = 3 ∨ b = 4 ∨ b = 5 ∨ b = 6 := by omega
  have hk : i = 0 ∨ i = 1 ∨ i = 2 := by omega
  rcases hb with rfl | rfl | rfl | rfl | rfl <;> rcases hk with rfl | rfl | rfl <;> decide
theorem snoc_get {α : Type} {l : List α} {a x : α} {j : Nat} (h : (l ++ [a])[j]? = some x) : (j < l.length ∧ l[j]? = some x) ∨ (j = l.length ∧ x = a) := by
  by_cases q : j < l.length
  · rw [List.getElem?_append_left q] at h
    exact .inl ⟨q, h⟩
  · have hj : j = l.length := by
      have := (List.getElem?_eq_some_iff.mp h).1
      rw [List.length_append] at this
      simp only [List.length_cons, List.length_nil] at this
      omega
    subst hj
    rw [List.getElem?_append_right (Nat.le_refl _), Nat.sub_self] at h
    cases h
    exact .inr ⟨rfl, rfl⟩
theorem c_regular (Z : Zs mg) (c_take : Cal P w K mg base 2 "_law_take" spTake []) (c_word : Cal P w K mg base 3 "_law_word" spWord []) {f : Addr} {fd : FuncData} (F : Def K mg "_law_regular" sRegular f fd) (b : Binds K fd ["pool"] []) : Cal P w K mg base 4 "_law_regular" spReg [] := by
  refine cal0 F b .nil scRegular (fun vs H Q E h => ?_) (fun cdv A outer s H vs Q E hr h => ?_)
  · obtain ⟨p, l, cs, rfl, _⟩ := h
    rfl
  · obtain ⟨p, l, cs, rfl, hP, hl, k⟩ := h
    refine ⟨_, pss_cons (ps_set (i := 1) scRegular.nd rfl (Or.inl rfl) (pe_op op_add pe_int (pe_c c_take hr (by omega) (by rfl) (pa_cons (pv 0) (pa_cons pe_int pa_nil)))))
      (pss_cons (ps_set (i := 2) scRegular.nd rfl (Or.inl rfl) (pe_cmpR op_eq (pe_c c_take hr (by omega) (by rfl) (pa_cons (pv 0) (pa_cons pe_int pa_nil))) pe_int (nomark _)))
      (pss_cons (ps_setLc (i := 3) (own := [("k", 6)]) (g := gName 6) (tt := tYes) rfl scRegular.nd rfl rfl (sw_true rfl rfl rfl (by decide +kernel)) (pi_range1 (by rfl) Z.range (pa_cons (pe_op op_sub (pv 1) pe_int) pa_nil)) (blkOk_by (own := [("k", 6)]) (N := ["pool", "base", "is_unsaid", "simple", "multipliers", "value", "k"]) (sc := fnScope sRegular) (by decide +kernel)) (fun _ _ _ _ _ => (pg_name (i := 6) scRegular.nd rfl (Or.inl rfl))) (fun _ _ _ _ _ => pts_nil) (fun _ _ _ _ _ => pe_tup (pa_cons (pe_c c_word hr (by omega) (by rfl) (pa_cons (pv 0) (pa_cons (pv 6) pa_nil))) (pa_cons (pe_op op_add (pv 6) pe_int) pa_nil))))
      (pss_cons (ps_set (i := 4) scRegular.nd rfl (Or.inl rfl) (pe_lst pa_nil))
      (pss_cons (ps_set (i := 5) scRegular.nd rfl (Or.inl rfl) (pv 1))
      (pss_cons (ps_for PassesOwn.never rfl (pi_range1 (by rfl) Z.range (pa_cons (pe_c c_take hr (by omega) (by rfl) (pa_cons (pv 0) (pa_cons pe_int pa_nil))) pa_nil)) (pg_name (i := 6) scRegular.nd rfl (Or.inl rfl))
        (pss_cons (ps_expr (kBM K (pe_bm PySem.F.plainAttrs_list PySem.F.slot_list_append PySem.F.type_list_append mt_append (pv 4) (pa_cons (pe_tup (pa_cons (pe_c c_word hr (by omega) (by rfl) (pa_cons (pv 0) (pa_cons (pe_op op_add pe_int (pv 6)) pa_nil))) (pa_cons (pv 5) (pa_cons (pe_op op_sub (pv 1) pe_int) (pa_cons (pv 2) (pa_cons (pe_op op_sub (pv 5) pe_int) pa_nil)))))) pa_nil))))
      (pss_one (ps_set (i := 5) scRegular.nd rfl (Or.inl rfl) (pe_op op_mul (pv 5) (pv 1))))))
      (pss_cons (ps_expr (kBM K (pe_bm PySem.F.plainAttrs_list PySem.F.slot_list_append PySem.F.type_list_append mt_append (pv 4) (pa_cons (pe_tup (pa_cons (pe_c c_word hr (by omega) (by rfl) (pa_cons (pv 0) (pa_cons pe_int pa_nil))) (pa_cons (pv 5) (pa_cons pe_non (pa_cons (pe_cmpR op_eq (pe_c c_take hr (by omega) (by rfl) (pa_cons (pv 0) (pa_cons pe_int pa_nil))) pe_int (nomark _)) (pa_cons (pe_op op_sub (pv 5) pe_int) pa_nil)))))) pa_nil))))
      (pss_one (ps_ret (pe_disp (pps_cons pe_str (pv 3) (pps_cons pe_str (pv 4) pps_nil)) rfl rfl (by intro h; cases h) (by decide)))))))))), ?_⟩
    walk_at "go"
    refine r_take' hP (by omega) (by omega) (fun H1 d1 e1 P1 l1 u1 => ?_)
    walk_at "rd"
    refine r_take' P1 (by omega) (by omega) (fun H2 d2 e2 P2 l2 u2 => ?_)
    have b2 : SameBut p H H2 := e1.trans e2
    have hl2 := b2 _ _ hP.ne hl
    generalize hB : (2 + d1 : Int) = B at *
    have B0 : 2 ≤ B := by omega
    have B1 : B ≤ 6 := by omega
    walk_at "rd"
    intro s hs
    have R0 := DL.of hP hl b2 P2 hs
    refine lc_range (lo := 0) (n := (B - 1).toNat) (fun i H' => ∃ (rs : List SR) (xs : List V), DL H H' p l s cs xs (rs.map srV) ∧ rs.length = i ∧ (∀ (i : Nat) (r : SR), rs[i]? = some r → WordN cs (i : Nat) r.w ∧ r.v = (i : Nat) + 1)) ⟨[], [], R0, rfl, fun i r h => nomatch h⟩ ?_ ?_
    · rintro i H3 hi ⟨rs, xs, R3, hlen, hw⟩
      refine R.gname ⟨rfl, ?_⟩
      rw [Int.zero_add]
      walk_at "rd"
      refine r_word R3.P R3.hl (by omega) (by omega) (fun H4 z e4 P4 wz => ?_)
      have R4 := R3.take e4 P4
      walk_at "rd"
      refine ⟨by decide, fun a ha => R.gen ha fun H5 s5 ha5 => ?_⟩
      have R5 := R4.same s5
      have hxl : xs.length < 100 := by have := R5.ts.len; rw [List.length_map] at this; omega
      refine ⟨xs, R5.hs, small1000 (by omega), rs ++ [⟨z, (i : Nat) + 1⟩], xs ++ [.ref a], ?_, by simp [hlen], fun j r hr => ?_⟩
      · rw [List.map_append]
        exact R5.app ha5
      · rcases snoc_get hr with ⟨_, h⟩ | ⟨h, rfl⟩
        · exact hw j r h
        · rw [h, hlen]
          exact ⟨wz, rfl⟩
    · rintro H3 ⟨rs, xs, R3, hlen, hw⟩
      walk_at "rd"
      refine ⟨by decide, fun m hm => ?_⟩
      have M0 := DM.of R3 hm
      generalize upd H3 m (.lst []) = H4 at M0
      walk_at "rd"
      refine r_take' M0.R.P (by omega) (by omega) (fun H5 n e5 P5 n0 n1 => ?_)
      have M5 := M0.take e5 P5
      walk_at "rd"
      refine for_it walk_range (fun i σ' H' => ∃ (kv : Option V) (ms : List MR) (ys : List V), σ' = [some (.ref p), some (.int B), some (.bl (decide (d2 = 1))), some (.ref s), some (.ref m), some (.int (B ^ (i + 1))), kv] ∧
        DM H H' p l s m cs xs (rs.map srV) ys (ms.map mrV) ∧ ms.length = i ∧ (∀ (i : Nat) (r : MR), ms[i]? = some r → WordN cs (10 + (i : Nat)) r.w ∧ r.v = B ^ (i + 1) ∧ r.r = r.v - 1 ∧ r.c = some (B - 1) ∧ r.u = decide (d2 = 1)))
        ⟨none, [], [], ?_, M5, rfl, fun i r h => nomatch h⟩ (fun _ _ _ _ _ => trivial) ?_ ?_
      · rw [Int.pow_succ, Int.pow_zero, Int.one_mul]
        rfl
      · rintro i x σ' H6 H6' hi ⟨kv, ms, ys, rfl, M6, hml, hmw⟩ ⟨rfl, rfl⟩
        have hpow := pow6 (i := i) B0 B1 (by omega)
        have hps : B ^ (i + 1 + 1) = B ^ (i + 1) * B := Int.pow_succ _ _
        rw [hps]
        generalize hV : B ^ (i + 1) = V at *
        have hm6 := M6.hm
        walk_at "rd"
        refine r_word M6.R.P M6.R.hl (by omega) (by omega) (fun H7 z e7 P7 wz => ?_)
        have M7 := M6.take e7 P7
        walk_at "rd"
        refine ⟨by decide, fun a ha => R.gen ha fun H8 s8 ha8 => ?_⟩
        have M8 := M7.same s8
        have hyl : ys.length = ms.length := by have := M8.tm.len; rwa [List.length_map] at this
        walk_at "rd"
        refine R.append M8.hm (small1000 (by omega)) ?_
        walk_at "rd"
        rw [Int.zero_add] at wz
        refine ⟨_, ms ++ [⟨z, V, some (B - 1), decide (d2 = 1), V - 1⟩], ys ++ [.ref a], rfl, ?_, by simp [hml], fun j r hr => ?_⟩
        · rw [List.map_append]
          exact M8.app ha8
        · rcases snoc_get hr with ⟨_, h⟩ | ⟨h, rfl⟩
          · exact hmw j r h
          · rw [h, hml]
            exact ⟨wz, hV.symm, rfl, rfl, rfl⟩
      · rintro σ' H6 ⟨kv, ms, ys, rfl, M6, hml, hmw⟩
        have hpow := pow6 (i := n.toNat) B0 B1 (by omega)
        generalize hV : B ^ (n.toNat + 1) = V at *
        have hm6 := M6.hm
        walk_at "rd"
        refine r_word M6.R.P M6.R.hl (by omega) (by omega) (fun H7 z e7 P7 wz => ?_)
        have M7 := M6.take e7 P7
        walk_at "rd"
        refine r_take' M7.R.P (by omega) (by omega) (fun H8 d8 e8 P8 n8 n9 => ?_)
        have M8 := M7.take e8 P8
        walk_at "rd"
        refine ⟨by decide, fun a ha => R.gen ha fun H9 s9 ha9 => ?_⟩
        have M9 := M8.same s9
        have hyl : ys.length = ms.length := by have := M9.tm.len; rwa [List.length_map] at this
        walk_at "rd"
        refine R.append M9.hm (small1000 (by omega)) ?_
        have M10 := M9.app ha9
        generalize upd H9 m (.lst (ys ++ [.ref a])) = H10 at M10
        walk_at "rd"
        refine disp fun t ht => R.gen ht fun H11 s11 ht11 => ?_
        have M11 := M10.same s11
        have hs11 := M11.R.hs
        have hm11 := M11.hm
        unfold tPairs
        walk_at "rd"
        unfold tPairs
        walk_at "rd"
        unfold tPairs
        refine ⟨ht11, rowsKs s m, rfl, by show 2 ≤ 15; decide, ?_⟩
        rw [rowsMerge]
        have t0 : H t = none := M10.R.nil0 ht
        obtain ⟨tp, tl⟩ := M10.R.P.nep ht
        have ts' : s ≠ t := (ne_of_none M10.R.hs ht)
        have tm' : m ≠ t := (ne_of_none M10.hm ht)
        have hmr : ∀ (i : Nat) (r : MR), (ms ++ [⟨z, V, none, decide (d8 = 1), V - 1⟩])[i]? = some r → (i < n.toNat → r.c = some (B - 1) ∧ r.u = decide (d2 = 1) ∧ WordN cs (10 + (i : Nat)) r.w) ∧ (¬ i < n.toNat → i = n.toNat ∧ r.c = none ∧ WordN cs 20 r.w) ∧ r.v = B ^ (i + 1) ∧ r.r = r.v - 1 := by
          intro i r hr
          rcases snoc_get hr with ⟨q, h⟩ | ⟨h, rfl⟩
          · obtain ⟨h1, h2, h3, h4, h5⟩ := hmw i r h
            exact ⟨fun _ => ⟨h4, h5, h1⟩, fun z => absurd (by omega) z, h2, h3⟩
          · rw [hml] at h
            exact ⟨fun z => absurd z (by omega), fun _ => ⟨h, rfl, wz⟩, by rw [h]; exact hV.symm, rfl⟩
        have hmm : ∀ r ∈ ms ++ [⟨z, V, none, decide (d8 = 1), V - 1⟩], ∃ i : Nat, i ≤ 2 ∧ (ms ++ [⟨z, V, none, decide (d8 = 1), V - 1⟩])[i]? = some r := by
          intro r hr
          obtain ⟨i, hi, he⟩ := List.mem_iff_getElem.mp hr
          have hi' := hi
          rw [List.length_append] at hi'
          simp only [List.length_cons, List.length_nil] at hi'
          exact ⟨i, by omega, by rw [List.getElem?_eq_getElem hi, he]⟩
        have hsl : (rs.length : Int) = B - 1 := by omega
        refine k _ t s m xs (ys ++ [.ref a]) rs (ms ++ [⟨z, V, none, decide (d8 = 1), V - 1⟩]) B n.toNat (decide (d2 = 1)) (M11.R.sb.put' t0) (M11.R.P.put tp tl) M11.m0 M11.ms.symm upd_same (by rw [upd_ne ts']; exact hs11) (M11.R.ts.keep (fun a d h => ?_)) (by rw [upd_ne tm']; exact hm11) ?_
          ⟨⟨fun r hr => ?_, fun r hr => ?_, ?_, by omega, by rw [List.length_append]; show ms.length + 1 ≤ 6; omega, ?_⟩, fun r hr => ?_, fun r hr => ?_, fun r hr c hc => ?_, by omega, fun z' hz => ?_⟩
          ⟨B0, B1, by omega, hsl, fun i r h => (hw i r h).2, by rw [List.length_append]; show ms.length + 1 = _; omega, fun i r h => ⟨(hmr i r h).2.2.1, (hmr i r h).2.2.2⟩, fun i r h q => ⟨((hmr i r h).1 q).1, ((hmr i r h).1 q).2.1⟩, fun r h => ((hmr _ r h).2.1 (Nat.lt_irrefl _)).2.1⟩
        · rw [upd_ne (ne_of h ht11 (by intro z; cases z))]; exact h
        · rw [List.map_append]
          exact M11.tm.keep fun a d h => by rw [upd_ne (ne_of h ht11 (by intro z; cases z))]; exact h
        · obtain ⟨i, hi, he⟩ := List.mem_iff_getElem.mp hr
          obtain ⟨h1, h2⟩ := hw i r (by rw [List.getElem?_eq_getElem hi, he])
          exact ⟨h1.good, by omega, by omega⟩
        · obtain ⟨i, hi, he⟩ := hmm r hr
          obtain ⟨h1, h2, h3, h4⟩ := hmr i r he
          have hp := pow6 (i := i) B0 B1 hi
          by_cases q : i < n.toNat
          · obtain ⟨g1, g2, g3⟩ := h1 q
            refine ⟨g3.good, by omega, by omega, fun c hc => ?_, by omega, by omega⟩
            rw [g1] at hc
            cases hc
            have q : (B - 1) * r.v ≤ 5 * 216 := Int.mul_le_mul (by omega) (by omega) (by omega) (by omega)
            exact ⟨by omega, by omega, by omega⟩
          · obtain ⟨g0, g1, g2⟩ := h2 q
            exact ⟨g2.good, by omega, by omega, fun c hc => (by rw [g1] at hc; cases hc), by omega, by omega⟩
        · refine nodupW (cs := cs) (fun i => if i < rs.length then (i : Nat) else if i - rs.length < n.toNat then 10 + ((i - rs.length : Nat) : Int) else 20) (fun i z' hz => ?_) (fun i j hij hj => ?_)
          · by_cases h : i < rs.length
            · rw [if_pos h]
              rw [List.getElem?_append_left (by rw [List.length_map]; exact h), List.getElem?_map] at hz
              cases e : rs[i]? with
              | none => rw [e] at hz; cases hz
              | some r => rw [e] at hz; cases hz; exact (hw i r e).1
            · rw [if_neg h]
              rw [List.getElem?_append_right (by rw [List.length_map]; omega), List.getElem?_map, List.length_map] at hz
              cases e : (ms ++ [⟨z, V, none, decide (d8 = 1), V - 1⟩])[i - rs.length]? with
              | none => rw [e] at hz; cases hz
              | some r =>
                rw [e] at hz
                cases hz
                split
                · rename_i q; exact ((hmr _ r e).1 q).2.2
                · rename_i q; exact ((hmr _ r e).2.1 q).2.2
          · rw [List.length_append, List.length_map, List.length_map, List.length_append] at hj
            simp only [List.length_cons, List.length_nil] at hj
            split <;> split <;> (try split) <;> (try split) <;> omega
        · rw [List.filter_append, List.length_append, List.filter_eq_nil_iff.mpr (fun r hr => ?_)]
          · exact Nat.le_refl _
          · obtain ⟨i, hi, he⟩ := List.mem_iff_getElem.mp hr
            obtain ⟨h1, h2, h3, h4, h5⟩ := hmw i r (by rw [List.getElem?_eq_getElem hi, he])
            rw [h4]
            exact Bool.false_ne_true
        · obtain ⟨i, hi, he⟩ := List.mem_iff_getElem.mp hr
          have := (hw i r (by rw [List.getElem?_eq_getElem hi, he])).2
          omega
        · obtain ⟨i, hi, he⟩ := hmm r hr
          obtain ⟨h1, h2, h3, h4⟩ := hmr i r he
          have hp := pow6 (i := i) B0 B1 hi
          omega
        · obtain ⟨i, hi, he⟩ := hmm r hr
          obtain ⟨h1, h2, h3, h4⟩ := hmr i r he
          by_cases q : i < n.toNat
          · rw [(h1 q).1] at hc
            cases hc
            omega
          · rw [(h2 q).2.1] at hc
            cases hc
        · rcases List.mem_append.mp hz with h | h
          · obtain ⟨r, hr, rfl⟩ := List.mem_map.mp h
            obtain ⟨i, hi, he⟩ := List.mem_iff_getElem.mp hr
            exact (hw i r (by rw [List.getElem?_eq_getElem hi, he])).1.fst
          · obtain ⟨r, hr, rfl⟩ := List.mem_map.mp h
            obtain ⟨i, hi, he⟩ := hmm r hr
            obtain ⟨h1, h2, h3, h4⟩ := hmr i r he
            by_cases q : i < n.toNat
            · exact (h1 q).2.2.fst
            · exact (h2 q).2.2.fst
end
end KN
end
section
set_option Elab.async false
set_option linter.all false
set_option maxRecDepth 100000
set_option maxHeartbeats 4000000
set_option pp.maxSteps 1500
set_option pp.deepTerms false
local macro_rules | `(tactic| walk_at "ne") => `(tactic| first
  | assumption | (apply Ne.symm; assumption)
  | exact R.ne_new (by assumption) | exact (R.ne_new (by assumption)).symm
  | exact L2.ne_of_none (by assumption) (by assumption) | exact (L2.ne_of_none (by assumption) (by assumption)).symm
  | exact L2.ne_of_none (by assumption) (R.free_new (by assumption)) | exact (L2.ne_of_none (by assumption) (R.free_new (by assumption))).symm)
local macro_rules | `(tactic| walk_at "at") => `(tactic| first
  | assumption | exact L2.upd_same
  | (refine R.sb (H := ?H) (p := ?p) ?e ?n ?h; (case e => assumption); (case n => walk_at "ne"); (case h => walk_at "at"))
  | (refine R.sm (H := ?H) ?e ?h; (case e => assumption); (case h => walk_at "at"))
  | (refine Eq.trans (L2.upd_ne ?_) ?_ <;> first | walk_at "ne" | walk_at "at"))
local macro_rules | `(tactic| walk_at "sqt") => `(tactic| first | assumption | (refine L2.SqT.of ?_; walk_at "at"))
local macro_rules | `(tactic| walk_at "ty") => `(tactic| first | exact R.tyN | exact R.tyB | exact R.tyI | exact R.tyS | (refine R.tyT (xs := ?xs) ?h; case h => walk_at "at") | (refine R.tyL (xs := ?xs) ?h; case h => walk_at "at"))
local macro_rules | `(tactic| walk_at "kit") => `(tactic| first | exact R.kit_NoneType_tuple | exact R.kit_NoneType_list | exact R.kit_NoneType_bool | exact R.kit_NoneType_str | exact R.kit_NoneType_int | exact R.kit_bool_tuple | exact R.kit_bool_list | exact R.kit_bool_bool | exact R.kit_bool_str | exact R.kit_bool_int | exact R.kit_int_tuple | exact R.kit_int_list | exact R.kit_int_bool | exact R.kit_int_str | exact R.kit_int_int | exact R.kit_str_tuple | exact R.kit_str_list | exact R.kit_str_bool | exact R.kit_str_str | exact R.kit_str_int | exact R.kit_tuple_tuple | exact R.kit_tuple_list | exact R.kit_tuple_bool | exact R.kit_tuple_str | exact R.kit_tuple_int | exact R.kit_list_tuple | exact R.kit_list_list | exact R.kit_list_bool | exact R.kit_list_str | exact R.kit_list_int)
local macro_rules | `(tactic| walk_at "sz") => `(tactic| first | assumption | (refine Nat.le_trans ?_ (show 1000 ≤ PySem.sizeLine by decide); omega) | decide)
local macro_rules | `(tactic| walk_at "szl") => `(tactic| first | assumption | exact Nat.le_of_lt (L2.small1000 (by omega)) | decide | decide +kernel)
local macro_rules | `(tactic| walk_at "sys") => `(tactic| first | assumption | exact KN.SysAt.same (by assumption) (by assumption))
local macro_rules | `(tactic| walk_at "dk") => `(tactic| first | exact R.rowsS _ _ | exact R.rowsM _ _)
local macro_rules | `(tactic| walk_at "sqa") => `(tactic| first | assumption | exact R.SeqA.same (by assumption) (by assumption) | exact R.SeqA.new (by assumption) (by assumption) | (exact Or.inl (by walk_at "at")) | (exact Or.inr (by walk_at "at")))
local macro_rules | `(tactic| walk_at "ix") => `(tactic| first | rfl | (exact L2.atI_nat (by assumption)) | assumption)
local macro_rules | `(tactic| walk_at "cond") => `(tactic| first
  | exact Or.inl (by decide) | exact Or.inr (by decide) | exact Or.inl ⟨by omega, by omega⟩ | exact Or.inr ⟨by omega, by omega⟩
  | (constructor <;> omega) | (show _ ≠ _; omega) | decide | omega)
local macro_rules | `(tactic| walk_at "r1") => `(tactic| first
  | ((with_reducible refine R.var (v := ?v) ?h ?q); case h => rfl)
  | with_reducible apply R.cons
  | with_reducible apply R.c
  | with_reducible apply R.nil
  | with_reducible apply R.op
  | with_reducible apply R.gname
  | with_reducible apply R.seq
  | with_reducible apply R.call
  | with_reducible apply R.asg
  | with_reducible apply R.ex
  | with_reducible apply R.tst
  | with_reducible apply R.i0
  | with_reducible apply R.ifs
  | with_reducible apply R.ret
  | with_reducible apply R.retN
  | with_reducible apply R.drop
  | with_reducible apply R.next
  | with_reducible apply R.tb_
  | with_reducible apply R.eqI
  | with_reducible apply R.neI
  | ((with_reducible refine R.ic ?_ ?_); · walk_at "cond")
  | with_reducible apply R.u0
  | with_reducible apply R.un
  | ((with_reducible refine R.eq ?_ ?_); · rfl)
  | ((with_reducible refine R.ne ?_ ?_); · rfl)
  | with_reducible apply R.and_
  | with_reducible apply R.or_
  | with_reducible apply R.not_
  | with_reducible apply R.ife
  | with_reducible apply R.chain
  | with_reducible apply R.cb
  | with_reducible apply R.bm
  | with_reducible apply R.gsub
  | with_reducible apply R.gnil
  | with_reducible apply R.gcons
  | with_reducible apply R.yes
  | with_reducible apply R.int1
  | ((with_reducible refine R.lenL (xs := ?xs) ?h ?q); case h => walk_at "at")
  | ((with_reducible refine R.ixL (xs := ?xs) (v := ?v) ?h ?e ?q); (case h => walk_at "at"); (case e => walk_at "ix"))
  | ((with_reducible refine R.setL (xs := ?xs) (n := ?n) ?h ?e ?q); (case h => walk_at "at"); (case e => rfl))
  | ((with_reducible refine R.append (xs := ?xs) ?h ?e ?q); (case h => walk_at "at"); (case e => walk_at "cond"))
  | with_reducible apply R.is_
  | with_reducible apply R.isnot
  | with_reducible apply R.andV
  | with_reducible apply R.orV
  | with_reducible apply R.notV
  | ((with_reducible refine R.isi (s := ?s) (b := ?b) ?ty ?h ?q); (case ty => walk_at "ty"); (case h => walk_at "kit"))
  | ((with_reducible refine R.addS ?h ?q); (case h => walk_at "sz"))
  | with_reducible apply R.max2
  | with_reducible apply R.min2
  | ((with_reducible refine R.lenStr ?h ?q); (case h => walk_at "szl"))
  | ((with_reducible refine R.ixS (n := ?n) ?h ?e ?q); (case h => walk_at "szl"); (case e => walk_at "ix"))
  | ((with_reducible refine R.tyl (xs := ?xs) ?h ?q); (case h => walk_at "at"))
  | with_reducible apply R.itlist
  | with_reducible apply R.ittup
  | with_reducible apply R.m1
  | with_reducible apply R.m1s
  | with_reducible apply R.leS
  | with_reducible apply R.itstr
  | with_reducible apply R.itstrE
  | with_reducible apply R.lc
  | with_reducible apply R.lc2
  | with_reducible apply R.ckw
  | with_reducible apply R.par
  | with_reducible apply R.parE
  | with_reducible apply R.itrev
  | with_reducible apply R.dsetd
  | with_reducible apply R.dnotin_
  | with_reducible apply R.for_
  | ((with_reducible refine R.all_ (bs := ?bs) ?h ?q); (case h => walk_at "at"))
  | with_reducible apply R.rng1
  | ((with_reducible refine R.rngE ?h ?q); (case h => (constructor <;> omega)))
  | ((with_reducible refine R.lenT (xs := ?xs) ?h ?q); (case h => walk_at "sqt"))
  | ((with_reducible refine R.ixT (xs := ?xs) (v := ?v) ?h ?e ?q); (case h => walk_at "sqt"); (case e => walk_at "ix"))
  | ((refine R.itlE (xs := ?xs) ?h ?q); (case h => walk_at "at"))
  | ((refine R.ittE (xs := ?xs) ?h ?q); (case h => walk_at "at"))
  | ((refine R.gseq (xs := ?xs) ?h ?e ?q); (case h => walk_at "sqa"); (case e => rfl))
  | ((refine R.ixA (xs := ?xs) (v := ?v) ?h ?e ?q); (case h => walk_at "sqa"); (case e => walk_at "ix"))
  | ((refine R.lenA (xs := ?xs) ?h ?q); (case h => walk_at "sqa"))
  | ((with_reducible refine R.gtup (xs := ?xs) ?h ?e ?q); (case h => walk_at "sqt"); (case e => rfl))
  | with_reducible apply R.din_
  | with_reducible apply R.dput_
  | with_reducible apply R.dget2_
  | ((with_reducible refine R.aug_ (x := ?x) ?h ?q); case h => rfl)
  | with_reducible apply R.ipI_
  | with_reducible apply R.rng2
  | ((with_reducible refine R.rngE2 ?h ?q); (case h => (refine ⟨?_, ?_, ?_, ?_⟩ <;> omega)))
  | with_reducible apply R.brk
  | with_reducible apply R.intB
  | with_reducible apply R.meth_
  | ((refine KN.methS (rs := ?rs) (ms := ?ms) ?h (fun _ _ _ _ => rfl) ?q); case h => walk_at "sys")
  | with_reducible apply R.sl_
  | with_reducible apply R.np_
  | with_reducible apply R.pt_
  | with_reducible apply R.ptE
  | with_reducible apply R.dget_
  | with_reducible apply R.revL_
  | ((refine R.dgetS (kvs := ?kvs) (v := ?v) ?h ?e ?q); (case h => walk_at "at"); (case e => walk_at "dk"))
  | with_reducible apply R.sfld
  | with_reducible apply R.fld_
  | with_reducible apply R.dc
  | with_reducible apply R.dget1_
  | with_reducible apply R.itseq
  | with_reducible apply R.itenum
  | with_reducible apply R.itT
  | with_reducible apply R.itF
  | with_reducible apply R.itNT
  | with_reducible apply R.itNF
  | (with_reducible apply R.tup)
  | (with_reducible apply R.lst))
local macro_rules | `(tactic| walk_at "rd") => `(tactic| (repeat (first | walk_at "r1" | (dsimp only [Int.reduceToNat, List.set_cons_succ, List.set_cons_zero, List.length_cons, List.length_nil, List.nil_append, List.cons_append, List.append_nil]))))
local macro_rules | `(tactic| walk_at "go") => `(tactic| (rw [R.start_eq]; dsimp only [R.startE, List.map_nil]; walk_at "rd"))
namespace KN
open PySem L2 SX R
open C8 (Cal Def cal0 pe_c pe_gc fnScope fnBody pss_cut)
section
variable {P : Program} {w : World} {K : PySem.W.Frag} {mg : Str → Option Value} {base : Heap}
abbrev sNearly : Stmt := top 39
theorem scNearly : FnScope ["pool", "rows", "at", "word", "value", "count", "is_unsaid", "rest", "kind"] ["pool"] (fnScope sNearly) := ⟨rfl, rfl, rfl, by decide +kernel, rfl, by decide +kernel, by decide +kernel⟩
structure NF (H H' : Hp) (p l r s m : Addr) (xs ys : List V) (rs : List SR) (ms : List MR) : Prop where
  sb : SameBut p H H'
  P : PoolAt H' p l
  m0 : H m = none
  sm : s ≠ m
  hr : H' r = some (.dK (rowsKs s m))
  hs : H' s = some (.lst xs)
  ts : TupsAt H' xs (rs.map srV)
  hm : H' m = some (.lst ys)
  tm : TupsAt H' ys (ms.map mrV)
theorem NF.take {H H' H2 : Hp} {p l r s m : Addr} {xs ys : List V} {rs : List SR} {ms : List MR} (N : NF H H' p l r s m xs ys rs ms) (e : SameBut p H' H2) (P : PoolAt H2 p l) : NF H H2 p l r s m xs ys rs ms := by
  have rp : r ≠ p := by
    rintro rfl
    obtain ⟨⟨cs, i, d, z, h1', _⟩, _⟩ := N.P
    have := N.hr
    rw [this] at h1'
    cases h1'
  exact ⟨N.sb.trans e, P, N.m0, N.sm, e _ _ rp N.hr, e _ _ (tups_ne N.P N.hs N.ts) N.hs, N.ts.keep (keep_pool N.P e), e _ _ (tups_ne N.P N.hm N.tm) N.hm, N.tm.keep (keep_pool N.P e)⟩
theorem TupsAt.set {H : Hp} {a : Addr} {d : List V} (h : H a = some (.tup d)) : ∀ {xs ds}, TupsAt H xs ds → ∀ i, TupsAt H (xs.set i (.ref a)) (ds.set i d)
  | _, _, .nil, i => .nil
  | _, _, .cons h' t, 0 => .cons h t
  | _, _, .cons h' t, i + 1 => .cons h' (TupsAt.set h t i)
theorem ixN_natK {n j : Nat} (hj : j < n) : ixN n (j : Int) = some j := by
  unfold ixN
  rw [if_pos (by omega), if_pos (by omega)]
  exact congrArg some (by omega)
/-- one row changed -/
structure MChg (m m' : MR) : Prop where
  w : m'.w = m.w
  n : m'.c.isNone = m.c.isNone
  c : ∀ x, m'.c = some x → 1 ≤ x ∧ x ≤ 8
  v : m'.v = m.v ∨ m'.v = m.v + 1
  r0 : 0 ≤ m'.r
  r1 : m'.r ≤ m.r
def NMid (H : Hp) (p l r s mm : Addr) (xs ys : List V) (rs : List SR) (ms : List MR) (d kd : Int) (m : MR) (σ' : L2.St) (H' : Hp) : Prop :=
  ∃ m' : MR, σ' = [some (.ref p), some (.ref r), some (.int d), some (.str m.w), some (.int m'.v), some (ocnt m'.c), some (.bl m'.u), some (.int m'.r), some (.int kd)] ∧ NF H H' p l r s mm xs ys rs ms ∧ MChg m m' ∧ m'.v = m.v
theorem flen {α : Type} (f : α → Bool) : ∀ l l' : List α, l.map f = l'.map f → (l.filter f).length = (l'.filter f).length
  | [], [], _ => rfl
  | a :: l, b :: l', h => by
    rw [List.map_cons, List.map_cons] at h
    obtain ⟨h1, h2⟩ := List.cons.inj h
    have ih := flen f l l' h2
    cases q : f a with
    | true => rw [List.filter_cons_of_pos q, List.filter_cons_of_pos (h1 ▸ q), List.length_cons, List.length_cons, ih]
    | false => rw [List.filter_cons_of_neg (by rw [q]; exact Bool.false_ne_true), List.filter_cons_of_neg (by rw [← h1, q]; exact Bool.false_ne_true), ih]
theorem map_set_same {α β : Type} (f : α → β) : ∀ (l : List α) (i : Nat) (a b : α), l[i]? = some a → f b = f a → (l.set i b).map f = l.map f
  | [], _, _, _, _, _ => rfl
  | x :: l, 0, a, b, h, e => by
    cases h
    rw [List.set_cons_zero, List.map_cons, List.map_cons, e]
  | x :: l, i + 1, a, b, h, e => by
    rw [List.set_cons_succ, List.map_cons, List.map_cons, map_set_same f l i a b h e]
theorem c_nearly (Z : Zs mg) (c_take : Cal P w K mg base 2 "_law_take" spTake []) (c_regular : Cal P w K mg base 4 "_law_regular" spReg []) {f : Addr} {fd : FuncData} (F : Def K mg "_law_nearly" sNearly f fd) (b : Binds K fd ["pool"] []) : Cal P w K mg base 5 "_law_nearly" (spDrawn 5 217 8) [] := by
  refine cal0 F b .nil scNearly (fun vs H Q E h => ?_) (fun cdv A outer s H vs Q E hr h => ?_)
  · obtain ⟨p, l, cs, rfl, _⟩ := h
    rfl
  · obtain ⟨p, l, cs, rfl, hP, hl, k⟩ := h
    refine ⟨_, pss_cons (ps_set (i := 1) scNearly.nd rfl (Or.inl rfl) (pe_c c_regular hr (by omega) (by rfl) (pa_cons (pv 0) pa_nil)))
      (pss_cons (ps_set (i := 2) scNearly.nd rfl (Or.inl rfl) (pe_c c_take hr (by omega) (by rfl) (pa_cons (pv 0) (pa_cons (pe_callB (kLen K) (by rfl) Z.len PySem.boot_len (pa_cons (pe_dget (hu_of hr) (pv 1) pe_str (fun _ _ => rfl)) pa_nil)) pa_nil))))
      (pss_cons (ps_asg (pe_ix (kIxL K) (pe_dget (hu_of hr) (pv 1) pe_str (fun _ _ => rfl)) (pv 2) (fun _ _ => rfl)) (kgTup K (n := 5) rfl (pgs_cons (pg_name (i := 3) scNearly.nd rfl (Or.inl rfl)) (pgs_cons (pg_name (i := 4) scNearly.nd rfl (Or.inl rfl)) (pgs_cons (pg_name (i := 5) scNearly.nd rfl (Or.inl rfl)) (pgs_cons (pg_name (i := 6) scNearly.nd rfl (Or.inl rfl)) (pgs_cons (pg_name (i := 7) scNearly.nd rfl (Or.inl rfl)) pgs_nil)))))))
      (pss_cons (ps_set (i := 8) scNearly.nd rfl (Or.inl rfl) (pe_c c_take hr (by omega) (by rfl) (pa_cons (pv 0) (pa_cons pe_int pa_nil))))
      (pss_cut (ps_if (PW.pt (pw_and (pt_cmpR op_eq (pv 8) pe_int (nomark _)) (pw_and1 (pt_cmpR oIsNot (pv 5) pe_non (nomark _)))))
        (pss_one (ps_set (i := 5) scNearly.nd rfl (Or.inl rfl) (pe_op op_add (pe_op op_add (pv 5) pe_int) (pe_c c_take hr (by omega) (by rfl) (pa_cons (pv 0) (pa_cons pe_int pa_nil))))))
        (pss_nil))
      (pss_cut (ps_if (pt_cmpR op_eq (pv 8) pe_int (nomark _))
        (pss_one (ps_set (i := 6) scNearly.nd rfl (Or.inl rfl) (pe_not (pv 6))))
        (pss_nil))
      (pss_cut (ps_if (pt_cmpR op_eq (pv 8) pe_int (nomark _))
        (pss_one (ps_set (i := 7) scNearly.nd rfl (Or.inl rfl) (pe_callB kMax2 (by rfl) Z.max (by decide +kernel) (pa_cons pe_int (pa_cons (pe_op op_sub (pe_op op_sub (pv 7) pe_int) (pe_c c_take hr (by omega) (by rfl) (pa_cons (pv 0) (pa_cons pe_int pa_nil)))) pa_nil)))))
        (pss_nil))
      (pss_cut (ps_if (pt_cmpR op_eq (pv 8) pe_int (nomark _))
        (pss_one (ps_set (i := 4) scNearly.nd rfl (Or.inl rfl) (pe_op op_add (pv 4) pe_int)))
        (pss_nil))
      (pss_cons (ps_asg (pe_tup (pa_cons (pv 3) (pa_cons (pv 4) (pa_cons (pv 5) (pa_cons (pv 6) (pa_cons (pv 7) pa_nil)))))) (pg_sub (pe_dget (hu_of hr) (pv 1) pe_str (fun _ _ => rfl)) (pv 2) set_list))
      (pss_one (ps_ret (pv 1))))))))))), ?_⟩
    walk_at "go"
    refine ⟨p, l, cs, rfl, hP, hl, fun H1 r s m xs ys rs ms bb kk uu b1 P1 m0 sm hr1 hs1 ts1 hm1 tm1 dr shp => ?_⟩
    have N1 : NF H H1 p l r s m xs ys rs ms := ⟨b1, P1, m0, sm, hr1, hs1, ts1, hm1, tm1⟩
    have lys : ys.length = ms.length := by have := tm1.len; rwa [List.length_map] at this
    have lms := shp.ml
    have lk := shp.k1
    walk_at "rd"
    refine r_take' P1 (by omega) (by omega) (fun H2 d e2 P2 d0 d1 => ?_)
    have N2 := N1.take e2 P2
    have hdi : d.toNat < ms.length := by omega
    have hri : ms[d.toNat]? = some ms[d.toNat] := List.getElem?_eq_getElem hdi
    generalize hme : ms[d.toNat] = mm at hri
    obtain ⟨a, hya, ha⟩ := N2.tm.get d.toNat (mrV mm) (by rw [List.getElem?_map, hri]; rfl)
    replace ha : H2 a = some (.tup [.str mm.w, .int mm.v, ocnt mm.c, .bl mm.u, .int mm.r]) := ha
    have eix : atI ys d = some (.ref a) := atI_pos d0 hya
    have hr2 := N2.hr
    have hm2 := N2.hm
    walk_at "rd"
    refine r_take' P2 (by omega) (by omega) (fun H3 kd e3 P3 kd0 kd1 => ?_)
    have N3 := N2.take e3 P3
    have hmem : mm ∈ ms := List.mem_of_getElem? hri
    have gm := dr.g.m _ hmem
    have g1 := gm.lo
    have g2 := gm.r0
    have g3 := gm.r1
    have g4 := dr.v _ hmem
    have gc : ∀ x, mm.c = some x → 1 ≤ x ∧ x ≤ 5 := fun x hx => ⟨(gm.c x hx).1, dr.c _ hmem x hx⟩
    have M0 : MChg mm mm := ⟨rfl, rfl, fun x hx => by have := gc x hx; omega, .inl rfl, g2, Int.le_refl _⟩
    walk_at "rd"
    refine R.cut (NMid H p l r s m xs ys rs ms d kd mm) ?_ ?_
    · walk_at "rd"
      refine it (fun h1 => ?_) (fun h1 => ?_)
      · walk_at "rd"
        cases hc : mm.c with
        | none =>
          refine itn (fun q => absurd rfl q) (fun _ => ?_)
          walk_at "rd"
          exact ⟨mm, by rw [hc]; rfl, N3, M0, rfl⟩
        | some x =>
          have gx := gc x hc
          rw [show ocnt (some x) = V.int x from rfl]
          refine itn (fun _ => ?_) (fun q => nomatch q)
          walk_at "rd"
          refine r_take' P3 (by omega) (by omega) (fun H4 d4 e4 P4 l4 u4 => ?_)
          walk_at "rd"
          exact ⟨⟨mm.w, mm.v, some (x + 1 + d4), mm.u, mm.r⟩, rfl, N3.take e4 P4, ⟨rfl, by rw [hc]; rfl, fun y hy => by cases hy; omega, .inl rfl, g2, Int.le_refl _⟩, rfl⟩
      · walk_at "rd"
        exact ⟨mm, rfl, N3, M0, rfl⟩
    · rintro σ' H4 ⟨m4, rfl, N4, C4, V4⟩
      walk_at "rd"
      refine R.cut (NMid H p l r s m xs ys rs ms d kd mm) ?_ ?_
      · walk_at "rd"
        refine it (fun h1 => ?_) (fun h1 => ?_)
        · walk_at "rd"
          exact ⟨⟨m4.w, m4.v, m4.c, !m4.u, m4.r⟩, rfl, N4, ⟨C4.w, C4.n, C4.c, C4.v, C4.r0, C4.r1⟩, V4⟩
        · walk_at "rd"
          exact ⟨m4, rfl, N4, C4, V4⟩
      · rintro σ' H5 ⟨m5, rfl, N5, C5, V5⟩
        walk_at "rd"
        refine R.cut (NMid H p l r s m xs ys rs ms d kd mm) ?_ ?_
        · walk_at "rd"
          refine it (fun h1 => ?_) (fun h1 => ?_)
          · walk_at "rd"
            refine r_take' N5.P (by omega) (by omega) (fun H6 d6 e6 P6 l6 u6 => ?_)
            walk_at "rd"
            have c5 := C5.r0
            have c6 := C5.r1
            exact ⟨⟨m5.w, m5.v, m5.c, m5.u, if m5.r - 1 - d6 > 0 then m5.r - 1 - d6 else 0⟩, rfl, N5.take e6 P6, ⟨C5.w, C5.n, C5.c, C5.v, by dsimp only; split <;> omega, by dsimp only; split <;> omega⟩, V5⟩
          · walk_at "rd"
            exact ⟨m5, rfl, N5, C5, V5⟩
        · rintro σ' H6 ⟨m6, rfl, N6, C6, V6⟩
          walk_at "rd"
          refine R.cut (fun σ' H' => ∃ m' : MR, σ' = [some (.ref p), some (.ref r), some (.int d), some (.str mm.w), some (.int m'.v), some (ocnt m'.c), some (.bl m'.u), some (.int m'.r), some (.int kd)] ∧ NF H H' p l r s m xs ys rs ms ∧ MChg mm m' ∧ m'.v ≤ 217 ∧ m'.r < m'.v) ?_ ?_
          · have c5 := C6.r0
            have c6 := C6.r1
            have c7 := C6.v
            walk_at "rd"
            refine it (fun h1 => ?_) (fun h1 => ?_)
            · walk_at "rd"
              exact ⟨⟨m6.w, m6.v + 1, m6.c, m6.u, m6.r⟩, rfl, N6, ⟨C6.w, C6.n, C6.c, .inr (by dsimp only; omega), C6.r0, C6.r1⟩, by dsimp only; omega, by dsimp only; omega⟩
            · walk_at "rd"
              exact ⟨m6, rfl, N6, C6, by omega, by omega⟩
          · rintro σ' H7 ⟨m7, rfl, N7, C7, v7, r7⟩
            have hr7 := N7.hr
            have hm7 := N7.hm
            walk_at "rd"
            refine ⟨by decide, fun t ht => R.gen ht fun H8 s8 ht8 => ?_⟩
            have N8 : NF H H8 p l r s m xs ys rs ms := N7.take (SameBut.of s8) (N7.P.same s8)
            have hr8 := N8.hr
            have hm8 := N8.hm
            walk_at "rd"
            have ixe : ixN ys.length d = some d.toNat := by
              have e' : d = ((d.toNat : Nat) : Int) := by omega
              rw [e']
              exact ixN_natK (by omega)
            refine R.setL hm8 ixe ?_
            walk_at "rd"
            have dj := C7.r0
            have rm : r ≠ m := by
              rintro rfl
              rw [hr8] at hm8
              cases hm8
            have tset : TupsAt (upd H8 m (.lst (ys.set d.toNat (.ref t)))) (ys.set d.toNat (.ref t)) ((ms.set d.toNat ⟨mm.w, m7.v, m7.c, m7.u, m7.r⟩).map mrV) := by
              rw [List.map_set]
              exact (N8.tm.keep (keep_list hm8)).set (keep_list hm8 _ _ ht8) _
            have mem_set : ∀ q ∈ ms.set d.toNat ⟨mm.w, m7.v, m7.c, m7.u, m7.r⟩, q ∈ ms ∨ q = ⟨mm.w, m7.v, m7.c, m7.u, m7.r⟩ := fun q hq => (List.mem_or_eq_of_mem_set hq)
            have gl : 2 ≤ m7.v := by have := C7.v; omega
            have pos : PoolAt (upd H8 m (.lst (ys.set d.toNat (.ref t)))) p l := by
              refine N8.P.put (tups_ne N8.P hm8 N8.tm) ?_
              rintro rfl
              rw [m0] at hl
              cases hl
            refine k _ r rs (ms.set d.toNat ⟨mm.w, m7.v, m7.c, m7.u, m7.r⟩) (N8.sb.put' m0) pos ⟨s, m, xs, ys.set d.toNat (.ref t), by rw [upd_ne rm]; exact hr8, by rw [upd_ne sm]; exact N8.hs, N8.ts.keep (keep_list hm8), upd_same, tset⟩
              ⟨⟨dr.g.s, fun q hq => ?_, ?_, dr.g.sl, by rw [List.length_set]; exact dr.g.ml, ?_⟩, dr.s, fun q hq => ?_, fun q hq c hc => ?_, dr.n, by rw [map_set_same (·.w) ms d.toNat mm ⟨mm.w, m7.v, m7.c, m7.u, m7.r⟩ hri rfl]; exact dr.f⟩
            · rcases mem_set q hq with h | rfl
              · exact dr.g.m q h
              · refine ⟨gm.w, gl, by dsimp only; omega, fun c hc => ?_, C7.r0, r7⟩
                have cc := C7.c c hc
                have q : c * m7.v ≤ 8 * 217 := Int.mul_le_mul cc.2 v7 (by omega) (by omega)
                refine ⟨cc.1, by omega, ?_⟩
                dsimp only
                omega
            · rw [map_set_same (·.w) ms d.toNat mm ⟨mm.w, m7.v, m7.c, m7.u, m7.r⟩ hri rfl]
              exact dr.g.nd
            · rw [flen (fun r : MR => r.c.isNone) _ ms (map_set_same (fun r : MR => r.c.isNone) ms d.toNat mm ⟨mm.w, m7.v, m7.c, m7.u, m7.r⟩ hri C7.n)]
              exact dr.g.one
            · rcases mem_set q hq with h | rfl
              · have := dr.v q h; omega
              · exact v7
            · rcases mem_set q hq with h | rfl
              · have := dr.c q h c hc; omega
              · exact (C7.c c hc).2
end
end KN
end
section
set_option Elab.async false
set_option linter.all false
set_option maxRecDepth 100000
set_option maxHeartbeats 4000000
set_option pp.maxSteps 1500
set_option pp.deepTerms false
local macro_rules | `(tactic| walk_at "ne") => `(tactic| first
  | assumption | (apply Ne.symm; assumption)
  | exact R.ne_new (by assumption) | exact (R.ne_new (by assumption)).symm
  | exact L2.ne_of_none (by assumption) (by assumption) | exact (L2.ne_of_none (by assumption) (by assumption)).symm
  | exact L2.ne_of_none (by assumption) (R.free_new (by assumption)) | exact (L2.ne_of_none (by assumption) (R.free_new (by assumption))).symm)
local macro_rules | `(tactic| walk_at "at") => `(tactic| first
  | assumption | exact L2.upd_same
  | (refine R.sb (H := ?H) (p := ?p) ?e ?n ?h; (case e => assumption); (case n => walk_at "ne"); (case h => walk_at "at"))
  | (refine R.sm (H := ?H) ?e ?h; (case e => assumption); (case h => walk_at "at"))
  | (refine Eq.trans (L2.upd_ne ?_) ?_ <;> first | walk_at "ne" | walk_at "at"))
local macro_rules | `(tactic| walk_at "sqt") => `(tactic| first | assumption | (refine L2.SqT.of ?_; walk_at "at"))
local macro_rules | `(tactic| walk_at "ty") => `(tactic| first | exact R.tyN | exact R.tyB | exact R.tyI | exact R.tyS | (refine R.tyT (xs := ?xs) ?h; case h => walk_at "at") | (refine R.tyL (xs := ?xs) ?h; case h => walk_at "at"))
local macro_rules | `(tactic| walk_at "kit") => `(tactic| first | exact R.kit_NoneType_tuple | exact R.kit_NoneType_list | exact R.kit_NoneType_bool | exact R.kit_NoneType_str | exact R.kit_NoneType_int | exact R.kit_bool_tuple | exact R.kit_bool_list | exact R.kit_bool_bool | exact R.kit_bool_str | exact R.kit_bool_int | exact R.kit_int_tuple | exact R.kit_int_list | exact R.kit_int_bool | exact R.kit_int_str | exact R.kit_int_int | exact R.kit_str_tuple | exact R.kit_str_list | exact R.kit_str_bool | exact R.kit_str_str | exact R.kit_str_int | exact R.kit_tuple_tuple | exact R.kit_tuple_list | exact R.kit_tuple_bool | exact R.kit_tuple_str | exact R.kit_tuple_int | exact R.kit_list_tuple | exact R.kit_list_list | exact R.kit_list_bool | exact R.kit_list_str | exact R.kit_list_int)
local macro_rules | `(tactic| walk_at "sz") => `(tactic| first | assumption | (refine Nat.le_trans ?_ (show 1000 ≤ PySem.sizeLine by decide); omega) | decide)
local macro_rules | `(tactic| walk_at "szl") => `(tactic| first | assumption | exact Nat.le_of_lt (L2.small1000 (by omega)) | decide | decide +kernel)
local macro_rules | `(tactic| walk_at "sys") => `(tactic| first | assumption | exact KN.SysAt.same (by assumption) (by assumption))
local macro_rules | `(tactic| walk_at "dk") => `(tactic| first | exact R.rowsS _ _ | exact R.rowsM _ _)
local macro_rules | `(tactic| walk_at "sqa") => `(tactic| first | assumption | exact R.SeqA.same (by assumption) (by assumption) | exact R.SeqA.new (by assumption) (by assumption) | (exact Or.inl (by walk_at "at")) | (exact Or.inr (by walk_at "at")))
local macro_rules | `(tactic| walk_at "ix") => `(tactic| first | rfl | (exact L2.atI_nat (by assumption)) | assumption)
local macro_rules | `(tactic| walk_at "cond") => `(tactic| first
  | exact Or.inl (by decide) | exact Or.inr (by decide) | exact Or.inl ⟨by omega, by omega⟩ | exact Or.inr ⟨by omega, by omega⟩
  | (constructor <;> omega) | (show _ ≠ _; omega) | decide | omega)
local macro_rules | `(tactic| walk_at "r1") => `(tactic| first
  | ((with_reducible refine R.var (v := ?v) ?h ?q); case h => rfl)
  | with_reducible apply R.cons
  | with_reducible apply R.c
  | with_reducible apply R.nil
  | with_reducible apply R.op
  | with_reducible apply R.gname
  | with_reducible apply R.seq
  | with_reducible apply R.call
  | with_reducible apply R.asg
  | with_reducible apply R.ex
  | with_reducible apply R.tst
  | with_reducible apply R.i0
  | with_reducible apply R.ifs
  | with_reducible apply R.ret
  | with_reducible apply R.retN
  | with_reducible apply R.drop
  | with_reducible apply R.next
  | with_reducible apply R.tb_
  | with_reducible apply R.eqI
  | with_reducible apply R.neI
  | ((with_reducible refine R.ic ?_ ?_); · walk_at "cond")
  | with_reducible apply R.u0
  | with_reducible apply R.un
  | ((with_reducible refine R.eq ?_ ?_); · rfl)
  | ((with_reducible refine R.ne ?_ ?_); · rfl)
  | with_reducible apply R.and_
  | with_reducible apply R.or_
  | with_reducible apply R.not_
  | with_reducible apply R.ife
  | with_reducible apply R.chain
  | with_reducible apply R.cb
  | with_reducible apply R.bm
  | with_reducible apply R.gsub
  | with_reducible apply R.gnil
  | with_reducible apply R.gcons
  | with_reducible apply R.yes
  | with_reducible apply R.int1
  | ((with_reducible refine R.lenL (xs := ?xs) ?h ?q); case h => walk_at "at")
  | ((with_reducible refine R.ixL (xs := ?xs) (v := ?v) ?h ?e ?q); (case h => walk_at "at"); (case e => walk_at "ix"))
  | ((with_reducible refine R.setL (xs := ?xs) (n := ?n) ?h ?e ?q); (case h => walk_at "at"); (case e => rfl))
  | ((with_reducible refine R.append (xs := ?xs) ?h ?e ?q); (case h => walk_at "at"); (case e => walk_at "cond"))
  | with_reducible apply R.is_
  | with_reducible apply R.isnot
  | with_reducible apply R.andV
  | with_reducible apply R.orV
  | with_reducible apply R.notV
  | ((with_reducible refine R.isi (s := ?s) (b := ?b) ?ty ?h ?q); (case ty => walk_at "ty"); (case h => walk_at "kit"))
  | ((with_reducible refine R.addS ?h ?q); (case h => walk_at "sz"))
  | with_reducible apply R.max2
  | with_reducible apply R.min2
  | ((with_reducible refine R.lenStr ?h ?q); (case h => walk_at "szl"))
  | ((with_reducible refine R.ixS (n := ?n) ?h ?e ?q); (case h => walk_at "szl"); (case e => walk_at "ix"))
  | ((with_reducible refine R.tyl (xs := ?xs) ?h ?q); (case h => walk_at "at"))
  | with_reducible apply R.itlist
  | with_reducible apply R.ittup
  | with_reducible apply R.m1
  | with_reducible apply R.m1s
  | with_reducible apply R.leS
  | with_reducible apply R.itstr
  | with_reducible apply R.itstrE
  | with_reducible apply R.lc
  | with_reducible apply R.lc2
  | with_reducible apply R.ckw
  | with_reducible apply R.par
  | with_reducible apply R.parE
  | with_reducible apply R.itrev
  | with_reducible apply R.dsetd
  | with_reducible apply R.dnotin_
  | with_reducible apply R.for_
  | ((with_reducible refine R.all_ (bs := ?bs) ?h ?q); (case h => walk_at "at"))
  | with_reducible apply R.rng1
  | ((with_reducible refine R.rngE ?h ?q); (case h => (constructor <;> omega)))
  | ((with_reducible refine R.lenT (xs := ?xs) ?h ?q); (case h => walk_at "sqt"))
  | ((with_reducible refine R.ixT (xs := ?xs) (v := ?v) ?h ?e ?q); (case h => walk_at "sqt"); (case e => walk_at "ix"))
  | ((refine R.itlE (xs := ?xs) ?h ?q); (case h => walk_at "at"))
  | ((refine R.ittE (xs := ?xs) ?h ?q); (case h => walk_at "at"))
  | ((refine R.gseq (xs := ?xs) ?h ?e ?q); (case h => walk_at "sqa"); (case e => rfl))
  | ((refine R.ixA (xs := ?xs) (v := ?v) ?h ?e ?q); (case h => walk_at "sqa"); (case e => walk_at "ix"))
  | ((refine R.lenA (xs := ?xs) ?h ?q); (case h => walk_at "sqa"))
  | ((with_reducible refine R.gtup (xs := ?xs) ?h ?e ?q); (case h => walk_at "sqt"); (case e => rfl))
  | with_reducible apply R.din_
  | with_reducible apply R.dput_
  | with_reducible apply R.dget2_
  | ((with_reducible refine R.aug_ (x := ?x) ?h ?q); case h => rfl)
  | with_reducible apply R.ipI_
  | with_reducible apply R.rng2
  | ((with_reducible refine R.rngE2 ?h ?q); (case h => (refine ⟨?_, ?_, ?_, ?_⟩ <;> omega)))
  | with_reducible apply R.brk
  | with_reducible apply R.intB
  | with_reducible apply R.meth_
  | ((refine KN.methS (rs := ?rs) (ms := ?ms) ?h (fun _ _ _ _ => rfl) ?q); case h => walk_at "sys")
  | with_reducible apply R.sl_
  | with_reducible apply R.np_
  | with_reducible apply R.pt_
  | with_reducible apply R.ptE
  | with_reducible apply R.dget_
  | with_reducible apply R.revL_
  | ((refine R.dgetS (kvs := ?kvs) (v := ?v) ?h ?e ?q); (case h => walk_at "at"); (case e => walk_at "dk"))
  | with_reducible apply R.sfld
  | with_reducible apply R.fld_
  | with_reducible apply R.dc
  | with_reducible apply R.dget1_
  | with_reducible apply R.itseq
  | with_reducible apply R.itenum
  | with_reducible apply R.itT
  | with_reducible apply R.itF
  | with_reducible apply R.itNT
  | with_reducible apply R.itNF
  | (with_reducible apply R.tup)
  | (with_reducible apply R.lst))
local macro_rules | `(tactic| walk_at "rd") => `(tactic| (repeat (first | walk_at "r1" | (dsimp only [Int.reduceToNat, List.set_cons_succ, List.set_cons_zero, List.length_cons, List.length_nil, List.nil_append, List.cons_append, List.append_nil]))))
local macro_rules | `(tactic| walk_at "go") => `(tactic| (rw [R.start_eq]; dsimp only [R.startE, List.map_nil]; walk_at "rd"))
namespace KN
open PySem L2 SX R
open C8 (Cal Def cal0 pe_c pe_gc fnScope fnBody pss_cut)
section
variable {P : Program} {w : World} {K : PySem.W.Frag} {mg : Str → Option Value} {base : Heap}
abbrev sEnglish : Stmt := top 40
theorem scEnglish : FnScope ["pool", "names", "simple", "multipliers", "tens", "word", "value", "k"] ["pool"] (fnScope sEnglish) := ⟨rfl, rfl, rfl, by decide +kernel, rfl, by decide +kernel, by decide +kernel⟩
def engRows : List SR := [⟨Str.ofString "one", 1⟩, ⟨Str.ofString "two", 2⟩, ⟨Str.ofString "three", 3⟩, ⟨Str.ofString "four", 4⟩, ⟨Str.ofString "five", 5⟩, ⟨Str.ofString "six", 6⟩, ⟨Str.ofString "seven", 7⟩, ⟨Str.ofString "eight", 8⟩, ⟨Str.ofString "nine", 9⟩, ⟨Str.ofString "ten", 10⟩, ⟨Str.ofString "eleven", 11⟩, ⟨Str.ofString "twelve", 12⟩, ⟨Str.ofString "thirteen", 13⟩, ⟨Str.ofString "fourteen", 14⟩, ⟨Str.ofString "fifteen", 15⟩, ⟨Str.ofString "sixteen", 16⟩]
def tensRows : List MR := [⟨Str.ofString "twenty", 20, some 1, true, 9⟩, ⟨Str.ofString "thirty", 30, some 1, true, 9⟩, ⟨Str.ofString "forty", 40, some 1, true, 9⟩, ⟨Str.ofString "fifty", 50, some 1, true, 9⟩, ⟨Str.ofString "sixty", 60, some 1, true, 9⟩, ⟨Str.ofString "seventy", 70, some 1, true, 9⟩, ⟨Str.ofString "eighty", 80, some 1, true, 9⟩]
def lastRows (c : Option Int) : List MR := [⟨Str.ofString "hundred", 100, some 9, false, 99⟩, ⟨Str.ofString "thousand", 1000, c, false, 999⟩]
theorem goodW_of {z : Str} (h : okWord z = true) : GoodW z := by
  unfold okWord at h
  simp only [Bool.and_eq_true, decide_eq_true_eq, List.all_eq_true] at h
  obtain ⟨⟨h1, h2⟩, h3⟩ := h
  refine ⟨z.cps.toList, (S_tl z).symm, ?_, ?_, fun c hc => ?_⟩
  · have : z.cps.toList.length = z.length := by simp [Str.length]
    omega
  · have : z.cps.toList.length = z.length := by simp [Str.length]
    omega
  · have := h3 c hc
    unfold okSign at this
    simp only [Bool.and_eq_true, decide_eq_true_eq] at this
    exact this
theorem eng_ok : (engRows.all fun r => okWord r.w && decide (1 ≤ r.v) && decide (r.v ≤ 16)) = true := by decide +kernel
theorem tens_ok : (tensRows.all fun r => okWord r.w && decide (2 ≤ r.v) && decide (r.v ≤ 80) && decide (r.c = some 1) && decide (r.r = 9) && decide (10 ≤ r.v)) = true := by decide +kernel
theorem eng_nodup : (engRows.map (·.w) ++ (tensRows.map (·.w) ++ (lastRows none).map (·.w))).Nodup := by decide +kernel
def fstB (z : Str) : Bool := match z.cps.toList with
  | c :: _ => decide (c < 120)
  | [] => false
theorem fst_of {z : Str} (h : fstB z = true) : Fst z := by
  unfold fstB at h
  split at h
  · rename_i c r e
    refine ⟨c, r, ?_, of_decide_eq_true h⟩
    obtain ⟨l⟩ := z
    obtain ⟨l⟩ := l
    cases e
    rfl
  · cases h
theorem eng_fst : (engRows.map (·.w) ++ (tensRows.map (·.w) ++ (lastRows none).map (·.w))).all fstB = true := by decide +kernel
theorem eng_good {n j : Nat} {c : Option Int} (hn : n ≤ 16) (hj : j ≤ 3) (hc : c = none ∨ c = some 99) : Drawn 16 1000 99 (engRows.take n) (tensRows.take j ++ lastRows c) := by
  have e0 := List.all_eq_true.mp eng_ok
  have t0 := List.all_eq_true.mp tens_ok
  have hs : ∀ r ∈ engRows.take n, okWord r.w = true ∧ 1 ≤ r.v ∧ r.v ≤ 16 := fun r hr => by
    have := e0 r (List.mem_of_mem_take hr)
    simp only [Bool.and_eq_true, decide_eq_true_eq] at this
    exact ⟨this.1.1, this.1.2, this.2⟩
  have ht : ∀ r ∈ tensRows.take j ++ lastRows c, okWord r.w = true ∧ 2 ≤ r.v ∧ r.v ≤ 1000 ∧ 0 ≤ r.r ∧ r.r < r.v ∧ ∀ x, r.c = some x → 1 ≤ x ∧ x ≤ 99 ∧ x * r.v + r.r ≤ 100000 := fun r hr => by
    rcases List.mem_append.mp hr with h | h
    · have := t0 r (List.mem_of_mem_take h)
      simp only [Bool.and_eq_true, decide_eq_true_eq] at this
      obtain ⟨⟨⟨⟨⟨h1, h2⟩, h3⟩, h4⟩, h5⟩, h6⟩ := this
      refine ⟨h1, h2, by omega, by omega, by omega, fun x hx => ?_⟩
      rw [h4] at hx
      cases hx
      exact ⟨by decide, by decide, by omega⟩
    · unfold lastRows at h
      simp only [List.mem_cons, List.not_mem_nil, or_false] at h
      rcases h with rfl | rfl
      · exact ⟨by decide +kernel, by decide, by decide, by decide, by decide, fun x hx => by cases hx; exact ⟨by decide, by decide, by decide⟩⟩
      · rcases hc with rfl | rfl
        · exact ⟨by decide +kernel, by decide, by decide, by decide, by decide, fun x hx => by cases hx⟩
        · exact ⟨by decide +kernel, by decide, by decide, by decide, by decide, fun x hx => by cases hx; exact ⟨by decide, by decide, by decide⟩⟩
  have wl : (lastRows c).map (·.w) = (lastRows none).map (·.w) := rfl
  refine ⟨⟨fun r hr => ⟨goodW_of (hs r hr).1, (hs r hr).2.1, by have := (hs r hr).2.2; omega⟩, fun r hr => ?_, ?_, ?_, ?_, ?_⟩, fun r hr => (hs r hr).2.2, fun r hr => (ht r hr).2.2.1, fun r hr x hx => ((ht r hr).2.2.2.2.2 x hx).2.1, by rw [List.length_take]; omega, fun z hz => fst_of (List.all_eq_true.mp eng_fst z (List.Sublist.subset ((List.take_sublist _ _).append ((List.take_sublist _ _).append (List.Sublist.refl _))) (by rw [List.map_append, wl, List.map_take, List.map_take] at hz; exact hz)))⟩
  · obtain ⟨h1, h2, h3, h4, h5, h6⟩ := ht r hr
    exact ⟨goodW_of h1, h2, by omega, fun x hx => ⟨(h6 x hx).1, by have := (h6 x hx).2.1; omega, (h6 x hx).2.2⟩, h4, h5⟩
  · rw [List.map_append, wl, List.map_take, List.map_take]
    exact eng_nodup.sublist ((List.take_sublist _ _).append ((List.take_sublist _ _).append (List.Sublist.refl _)))
  · rw [List.length_take]; have : engRows.length = 16 := rfl; omega
  · rw [List.length_append, List.length_take]; have : (lastRows c).length = 2 := rfl; omega
  · rw [List.filter_append, List.length_append, List.filter_eq_nil_iff.mpr (fun r hr => ?_)]
    · rcases hc with rfl | rfl <;> decide
    · have := t0 r (List.mem_of_mem_take hr)
      simp only [Bool.and_eq_true, decide_eq_true_eq] at this
      rw [this.1.1.2]
      exact Bool.false_ne_true
theorem eng_at0 : ∀ n : Nat, n < 16 → (engRows[n]?.map (·.v)) = some ((n : Int) + 1) := by decide +kernel
theorem eng_at (n : Nat) (h : n < 16) : ∃ r, engRows[n]? = some r ∧ r.v = (n : Int) + 1 := by
  have := eng_at0 n h
  cases e : engRows[n]? with
  | none => rw [e] at this; cases this
  | some r => rw [e] at this; exact ⟨r, rfl, Option.some.inj this⟩
theorem tens_at0 : ∀ n : Nat, n < 7 → (tensRows[n]?.map fun r => (r.c, r.u, r.r)) = some (some 1, true, 9) := by decide +kernel
theorem tens_at (n : Nat) (h : n < 7) : ∃ r, tensRows[n]? = some r ∧ r = ⟨r.w, r.v, some 1, true, 9⟩ := by
  have := tens_at0 n h
  cases e : tensRows[n]? with
  | none => rw [e] at this; cases this
  | some r =>
    rw [e] at this
    refine ⟨r, rfl, ?_⟩
    have q := Option.some.inj this
    obtain ⟨w, v, c, u, r⟩ := r
    simp only [Prod.mk.injEq] at q
    obtain ⟨rfl, rfl, rfl⟩ := q
    rfl
theorem c_english (Z : Zs mg) (c_take : Cal P w K mg base 2 "_law_take" spTake []) {f : Addr} {fd : FuncData} (F : Def K mg "_law_english" sEnglish f fd) (b : Binds K fd ["pool"] []) : Cal P w K mg base 3 "_law_english" (spDrawn 16 1000 99) [] := by
  refine cal0 F b .nil scEnglish (fun vs H Q E h => ?_) (fun cdv A outer s H vs Q E hr h => ?_)
  · obtain ⟨p, l, cs, rfl, _⟩ := h
    rfl
  · obtain ⟨p, l, cs, rfl, hP, hl, k⟩ := h
    refine ⟨_, pss_cons (ps_set (i := 1) scEnglish.nd rfl (Or.inr rfl) (pe_lst (pa_cons pe_str (pa_cons pe_str (pa_cons pe_str (pa_cons pe_str (pa_cons pe_str (pa_cons pe_str (pa_cons pe_str (pa_cons pe_str (pa_cons pe_str (pa_cons pe_str (pa_cons pe_str (pa_cons pe_str pa_nil))))))))))))))
      (pss_cons (ps_set (i := 1) scEnglish.nd rfl (Or.inr rfl) (pe_op op_cat (pv 1) (pe_lst (pa_cons pe_str (pa_cons pe_str (pa_cons pe_str (pa_cons pe_str pa_nil)))))))
      (pss_cons (ps_setLc (i := 2) (own := [("k", 7)]) (g := gName 7) (tt := tYes) rfl scEnglish.nd rfl rfl (sw_true rfl rfl rfl (by decide +kernel)) (pi_range1 (by rfl) Z.range (pa_cons (pe_op op_add pe_int (pe_c c_take hr (by omega) (by rfl) (pa_cons (pv 0) (pa_cons pe_int pa_nil)))) pa_nil)) (blkOk_by (own := [("k", 7)]) (N := ["pool", "names", "simple", "multipliers", "tens", "word", "value", "k"]) (sc := fnScope sEnglish) (by decide +kernel)) (fun _ _ _ _ _ => (pg_name (i := 7) scEnglish.nd rfl (Or.inl rfl))) (fun _ _ _ _ _ => pts_nil) (fun _ _ _ _ _ => pe_tup (pa_cons (pe_ix (kIxL K) (pv 1) (pv 7) (fun _ _ => rfl)) (pa_cons (pe_op op_add (pv 7) pe_int) pa_nil))))
      (pss_cons (ps_set (i := 3) scEnglish.nd rfl (Or.inl rfl) (pe_lst pa_nil))
      (pss_cons (ps_set (i := 4) scEnglish.nd rfl (Or.inl rfl) (pe_lst (pa_cons (pe_tup (pa_cons pe_str (pa_cons pe_int pa_nil))) (pa_cons (pe_tup (pa_cons pe_str (pa_cons pe_int pa_nil))) (pa_cons (pe_tup (pa_cons pe_str (pa_cons pe_int pa_nil))) (pa_cons (pe_tup (pa_cons pe_str (pa_cons pe_int pa_nil))) (pa_cons (pe_tup (pa_cons pe_str (pa_cons pe_int pa_nil))) (pa_cons (pe_tup (pa_cons pe_str (pa_cons pe_int pa_nil))) (pa_cons (pe_tup (pa_cons pe_str (pa_cons pe_int pa_nil))) pa_nil)))))))))
      (pss_cons (ps_for PassesOwn.never rfl (kiL K (pe_slice (kSlL K) (pv 4) po_none (po_some (pe_c c_take hr (by omega) (by rfl) (pa_cons (pv 0) (pa_cons pe_int pa_nil)))))) (kgTup K (n := 2) rfl (pgs_cons (pg_name (i := 5) scEnglish.nd rfl (Or.inl rfl)) (pgs_cons (pg_name (i := 6) scEnglish.nd rfl (Or.inl rfl)) pgs_nil)))
        (pss_one (ps_expr (kBM K (pe_bm PySem.F.plainAttrs_list PySem.F.slot_list_append PySem.F.type_list_append mt_append (pv 3) (pa_cons (pe_tup (pa_cons (pv 5) (pa_cons (pv 6) (pa_cons pe_int (pa_cons pe_bl (pa_cons pe_int pa_nil)))))) pa_nil))))))
      (pss_cons (ps_expr (kBM K (pe_bm PySem.F.plainAttrs_list PySem.F.slot_list_append PySem.F.type_list_append mt_append (pv 3) (pa_cons (pe_tup (pa_cons pe_str (pa_cons pe_int (pa_cons pe_int (pa_cons pe_bl (pa_cons pe_int pa_nil)))))) pa_nil))))
      (pss_cons (ps_expr (kBM K (pe_bm PySem.F.plainAttrs_list PySem.F.slot_list_append PySem.F.type_list_append mt_append (pv 3) (pa_cons (pe_tup (pa_cons pe_str (pa_cons pe_int (pa_cons (pe_ix (kIxT K) (pe_tup (pa_cons pe_non (pa_cons pe_int pa_nil))) (pe_c c_take hr (by omega) (by rfl) (pa_cons (pv 0) (pa_cons pe_int pa_nil))) (fun _ _ => rfl)) (pa_cons pe_bl (pa_cons pe_int pa_nil)))))) pa_nil))))
      (pss_one (ps_ret (pe_disp (pps_cons pe_str (pv 2) (pps_cons pe_str (pe_slice (kSlL K) (pv 3) po_none (po_some pe_int)) pps_nil)) rfl rfl (by intro h; cases h) (by decide))))))))))), ?_⟩
    walk_at "go"
    refine ⟨by decide, fun a1 ha1 => R.gen ha1 fun H1 s1 h1 => ?_⟩
    walk_at "rd"
    refine ⟨by decide, fun a2 ha2 => R.gen ha2 fun H2 s2 h2 => ?_⟩
    have h1' := s2 _ _ h1
    walk_at "rd"
    refine R.catL h1' h2 (by decide) fun a3 ha3 => R.gen ha3 fun H3 s3 h3 => ?_
    have s03 := (s1.trans s2).trans s3
    have hP3 := hP.same s03
    have hl3 := s03 _ _ hl
    replace h3 : H3 a3 = some (.lst ((engRows.map (·.w)).map V.str)) := h3
    clear h1 h1' h2
    walk_at "rd"
    refine r_take' hP3 (by omega) (by omega) (fun H4 d4 e4 P4 l4 u4 => ?_)
    have a3p := (hP.same (s1.trans s2)).nep ha3
    have h4 := e4 _ _ a3p.1 h3
    have b4 := (SameBut.of s03 : SameBut p _ _).trans e4
    walk_at "rd"
    intro D hD
    have R0 := DL.of hP hl b4 P4 hD
    have Da : a3 ≠ D := ne_of_none h4 hD
    refine lc_range (lo := 0) (n := (1 + d4).toNat) (fun i H' => ∃ xs : List V, DL H H' p l D cs xs ((engRows.take i).map srV) ∧ H' a3 = some (.lst ((engRows.map (·.w)).map V.str))) ⟨[], R0, by rw [upd_ne Da]; exact h4⟩ ?_ ?_
    · rintro i H5 hi ⟨xs, R5, h5⟩
      obtain ⟨r, hr1, hr2⟩ := eng_at i (by omega)
      have eix : atI ((engRows.map (·.w)).map V.str) (i : Nat) = some (.str r.w) := atI_nat (by rw [List.getElem?_map, List.getElem?_map, hr1]; rfl)
      refine R.gname ⟨rfl, ?_⟩
      rw [Int.zero_add]
      walk_at "rd"
      refine ⟨by decide, fun a ha => R.gen ha fun H6 s6 h6 => ?_⟩
      have R6 := R5.same s6
      have hxl : xs.length < 100 := by have := R6.ts.len; rw [List.length_map, List.length_take] at this; have e : engRows.length = 16 := rfl; omega
      refine ⟨xs, R6.hs, small1000 (by omega), xs ++ [.ref a], ?_, by rw [upd_ne Da]; exact s6 _ _ h5⟩
      have et : engRows.take (i + 1) = engRows.take i ++ [r] := by rw [List.take_add_one, hr1]; rfl
      rw [et, List.map_append]
      refine R6.app ?_
      rw [h6, ← hr2]
      rfl
    · rintro H5 ⟨xs, R5, h5⟩
      generalize hn : (1 + d4).toNat = n at R5
      walk_at "rd"
      refine ⟨by decide, fun m hm => ?_⟩
      have M0 := DM.of R5 hm
      generalize upd H5 m (.lst []) = H6 at M0
      walk_at "rd"
      refine ⟨by decide, fun t1 ht1 => R.gen ht1 fun G1 g1 k1 => ?_⟩
      walk_at "rd"
      refine ⟨by decide, fun t2 ht2 => R.gen ht2 fun G2 g2 k2 => ?_⟩
      walk_at "rd"
      refine ⟨by decide, fun t3 ht3 => R.gen ht3 fun G3 g3 k3 => ?_⟩
      walk_at "rd"
      refine ⟨by decide, fun t4 ht4 => R.gen ht4 fun G4 g4 k4 => ?_⟩
      walk_at "rd"
      refine ⟨by decide, fun t5 ht5 => R.gen ht5 fun G5 g5 k5 => ?_⟩
      walk_at "rd"
      refine ⟨by decide, fun t6 ht6 => R.gen ht6 fun G6 g6 k6 => ?_⟩
      walk_at "rd"
      refine ⟨by decide, fun t7 ht7 => R.gen ht7 fun G7 g7 k7 => ?_⟩
      walk_at "rd"
      refine ⟨by decide, fun tn htn => R.gen htn fun G8 g8 k8 => ?_⟩
      have M8 := M0.same (g1.trans (g2.trans (g3.trans (g4.trans (g5.trans (g6.trans (g7.trans g8)))))))
      have tt : TupsAt G8 [.ref t1, .ref t2, .ref t3, .ref t4, .ref t5, .ref t6, .ref t7] (tensRows.map fun r => [V.str r.w, .int r.v]) :=
        .cons ((g2.trans (g3.trans (g4.trans (g5.trans (g6.trans (g7.trans g8)))))) _ _ k1) (.cons ((g3.trans (g4.trans (g5.trans (g6.trans (g7.trans g8))))) _ _ k2) (.cons ((g4.trans (g5.trans (g6.trans (g7.trans g8)))) _ _ k3) (.cons ((g5.trans (g6.trans (g7.trans g8))) _ _ k4)
          (.cons ((g6.trans (g7.trans g8)) _ _ k5) (.cons ((g7.trans g8) _ _ k6) (.cons (g8 _ _ k7) .nil))))))
      generalize hT : [V.ref t1, .ref t2, .ref t3, .ref t4, .ref t5, .ref t6, .ref t7] = tl at k8 tt
      have tll : tl.length = 7 := by rw [← hT]; rfl
      have tnp := (M0.same (g1.trans (g2.trans (g3.trans (g4.trans (g5.trans (g6.trans g7))))))).R.P.nep htn
      clear k1 k2 k3 k4 k5 k6 k7
      walk_at "rd"
      refine r_take' M8.R.P (by omega) (by omega) (fun H9 d9 e9 P9 l9 u9 => ?_)
      have M9 := M8.take e9 P9
      have k9 := e9 _ _ tnp.1 k8
      have tt9 := tt.keep (keep_pool M8.R.P e9)
      walk_at "rd"
      refine slLN k9 fun sl H10 s10 hsl k10 => ?_
      rw [cut_to _ l9] at k10
      have M10 := M9.same s10
      have tt10 := tt9.keep (fun a d h => s10 _ _ h)
      walk_at "rd"
      refine for_it (walk_list (K := K) (a := sl) (xs := tl.take d9.toNat)) (fun i σ' H' => ∃ (kv wv vv : Option V) (ys : List V), σ' = [some (.ref p), some (.ref a3), some (.ref D), some (.ref m), some (.ref tn), wv, vv, kv] ∧
        DM H H' p l D m cs xs ((engRows.take n).map srV) ys ((tensRows.take i).map mrV) ∧ H' sl = some (.lst (tl.take d9.toNat)) ∧ TupsAt H' tl (tensRows.map fun r => [V.str r.w, .int r.v]))
        ⟨none, none, none, [], rfl, M10, k10, tt10⟩ (fun i σ' H' _ hh => by obtain ⟨_, _, _, _, _, _, h, _⟩ := hh; exact SqL.of h) ?_ ?_
      · rintro i x σ' H11 H11' hi ⟨kv, wv, vv, ys, rfl, M11, k11, tt11⟩ ⟨rfl, hx⟩
        have hi' : i < d9.toNat ∧ i < 7 := by rw [List.length_take] at hi; omega
        obtain ⟨r, hr1, hr2⟩ := tens_at i hi'.2
        obtain ⟨a, hya, ha⟩ := tt11.get i [V.str r.w, .int r.v] (by rw [List.getElem?_map, hr1]; rfl)
        rw [List.getElem?_take_of_lt hi'.1, hya] at hx
        cases hx
        have hm11 := M11.hm
        walk_at "rd"
        refine ⟨by decide, fun a2 ha2 => R.gen ha2 fun H12 s12 h12 => ?_⟩
        have M12 := M11.same s12
        have k12 := s12 _ _ k11
        have tt12 := tt11.keep (fun a d h => s12 _ _ h)
        have hyl : ys.length < 100 := by have := M12.tm.len; rw [List.length_map, List.length_take] at this; omega
        have slm : sl ≠ m := by
          rintro rfl
          have := M10.m0
          exact absurd (M9.hm) (by rw [hsl]; intro z; cases z)
        walk_at "rd"
        refine R.append M12.hm (small1000 (by omega)) ?_
        walk_at "rd"
        have et : tensRows.take (i + 1) = tensRows.take i ++ [r] := by rw [List.take_add_one, hr1]; rfl
        refine ⟨_, _, _, ys ++ [.ref a2], rfl, ?_, by rw [upd_ne slm]; exact k12, tt12.keep (keep_list M12.hm)⟩
        rw [et, List.map_append]
        refine M12.app ?_
        rw [h12, hr2]
        rfl
      · rintro σ' H11 ⟨kv, wv, vv, ys, rfl, M11, k11, tt11⟩
        have hdl : (tl.take d9.toNat).length = d9.toNat := by rw [List.length_take]; omega
        rw [hdl] at M11
        have hm11 := M11.hm
        walk_at "rd"
        refine ⟨by decide, fun a5 ha5 => R.gen ha5 fun H12 s12 h12 => ?_⟩
        have M12 := M11.same s12
        have hyl : ys.length = d9.toNat := by have := M12.tm.len; rw [List.length_map, List.length_take] at this; have e : tensRows.length = 7 := rfl; omega
        walk_at "rd"
        refine R.append M12.hm (small1000 (by omega)) ?_
        have M13 := M12.app h12
        generalize upd H12 m (.lst (ys ++ [.ref a5])) = H13 at M13
        have hm13 := M13.hm
        walk_at "rd"
        refine ⟨by decide, fun t9 ht9 => R.gen ht9 fun H14 s14 h14 => ?_⟩
        have M14 := M13.same s14
        have tp9 := (M13.R.P.nep ht9).1
        walk_at "rd"
        refine r_take' M14.R.P (by omega) (by omega) (fun H15 d15 e15 P15 l15 u15 => ?_)
        have M15 := M14.take e15 P15
        have h15 := e15 _ _ tp9 h14
        obtain ⟨v, hv1, ev⟩ := atI_in (xs := [V.non, .int 99]) l15 u15
        obtain ⟨c, rfl, hc⟩ : ∃ c : Option Int, v = ocnt c ∧ (c = none ∨ c = some 99) := by
          simp only [List.mem_cons, List.not_mem_nil, or_false] at hv1
          rcases hv1 with rfl | rfl
          · exact ⟨none, rfl, .inl rfl⟩
          · exact ⟨some 99, rfl, .inr rfl⟩
        walk_at "rd"
        refine ⟨by decide, fun a6 ha6 => R.gen ha6 fun H16 s16 h16 => ?_⟩
        have M16 := M15.same s16
        walk_at "rd"
        refine R.append M16.hm (small1000 (by rw [List.length_append]; show ys.length + 1 ≤ 1000; omega)) ?_
        have M17 := M16.app h16
        generalize upd H16 m (.lst (ys ++ [.ref a5] ++ [.ref a6])) = H17 at M17
        walk_at "rd"
        refine disp fun t ht => R.gen ht fun H18 s18 ht18 => ?_
        have M18 := M17.same s18
        have hs18 := M18.R.hs
        have hm18 := M18.hm
        unfold tPairs
        walk_at "rd"
        unfold tPairs
        walk_at "rd"
        refine slLN hm18 fun m2 H19 s19 hm2 h19 => ?_
        rw [cut_to _ (by decide), List.take_of_length_le (by rw [List.length_append, List.length_append]; show ys.length + 1 + 1 ≤ 6; omega)] at h19
        have M19 := M18.same s19
        have ht19 := s19 _ _ ht18
        unfold tPairs
        refine ⟨ht19, rowsKs D m2, rfl, by show 2 ≤ 15; decide, ?_⟩
        rw [rowsMerge]
        have t0 : H t = none := M17.R.nil0 ht
        obtain ⟨tp, tl'⟩ := M17.R.P.nep ht
        have ts' : D ≠ t := (ne_of_none M17.R.hs ht)
        have tm' : m2 ≠ t := (ne_of_none ht18 hm2).symm
        refine k _ t (engRows.take n) (tensRows.take d9.toNat ++ lastRows c) (M19.R.sb.put' t0) (M19.R.P.put tp tl') ⟨D, m2, xs, _, upd_same, by rw [upd_ne ts']; exact M19.R.hs, M19.R.ts.keep (fun a d h => ?_), by rw [upd_ne tm']; exact h19, ?_⟩ ((eng_good (by omega) (by omega) hc).mono (by decide) (by decide) (by decide))
        · rw [upd_ne (ne_of h ht19 (by intro z; cases z))]; exact h
        · have q := M19.tm.keep (H' := upd H19 t (.dK (rowsKs D m2))) (fun a d h => by rw [upd_ne (ne_of h ht19 (by intro z; cases z))]; exact h)
          rw [List.map_append]
          have e : (lastRows c).map mrV = [[V.str (Str.ofString "hundred"), .int 100, .int 9, .bl false, .int 99]] ++ [[V.str (Str.ofString "thousand"), .int 1000, ocnt c, .bl false, .int 999]] := rfl
          rw [e, ← List.append_assoc]
          exact q
end
end KN
end
section
set_option Elab.async false
set_option linter.all false
set_option maxRecDepth 100000
set_option maxHeartbeats 4000000
set_option pp.maxSteps 1500
set_option pp.deepTerms false
local macro_rules | `(tactic| walk_at "ne") => `(tactic| first
  | assumption | (apply Ne.symm; assumption)
  | exact R.ne_new (by assumption) | exact (R.ne_new (by assumption)).symm
  | exact L2.ne_of_none (by assumption) (by assumption) | exact (L2.ne_of_none (by assumption) (by assumption)).symm
  | exact L2.ne_of_none (by assumption) (R.free_new (by assumption)) | exact (L2.ne_of_none (by assumption) (R.free_new (by assumption))).symm)
local macro_rules | `(tactic| walk_at "at") => `(tactic| first
  | assumption | exact L2.upd_same
  | (refine R.sb (H := ?H) (p := ?p) ?e ?n ?h; (case e => assumption); (case n => walk_at "ne"); (case h => walk_at "at"))
  | (refine R.sm (H := ?H) ?e ?h; (case e => assumption); (case h => walk_at "at"))
  | (refine Eq.trans (L2.upd_ne ?_) ?_ <;> first | walk_at "ne" | walk_at "at"))
local macro_rules | `(tactic| walk_at "sqt") => `(tactic| first | assumption | (refine L2.SqT.of ?_; walk_at "at"))
local macro_rules | `(tactic| walk_at "ty") => `(tactic| first | exact R.tyN | exact R.tyB | exact R.tyI | exact R.tyS | (refine R.tyT (xs := ?xs) ?h; case h => walk_at "at") | (refine R.tyL (xs := ?xs) ?h; case h => walk_at "at"))
local macro_rules | `(tactic| walk_at "kit") => `(tactic| first | exact R.kit_NoneType_tuple | exact R.kit_NoneType_list | exact R.kit_NoneType_bool | exact R.kit_NoneType_str | exact R.kit_NoneType_int | exact R.kit_bool_tuple | exact R.kit_bool_list | exact R.kit_bool_bool | exact R.kit_bool_str | exact R.kit_bool_int | exact R.kit_int_tuple | exact R.kit_int_list | exact R.kit_int_bool | exact R.kit_int_str | exact R.kit_int_int | exact R.kit_str_tuple | exact R.kit_str_list | exact R.kit_str_bool | exact R.kit_str_str | exact R.kit_str_int | exact R.kit_tuple_tuple | exact R.kit_tuple_list | exact R.kit_tuple_bool | exact R.kit_tuple_str | exact R.kit_tuple_int | exact R.kit_list_tuple | exact R.kit_list_list | exact R.kit_list_bool | exact R.kit_list_str | exact R.kit_list_int)
local macro_rules | `(tactic| walk_at "sz") => `(tactic| first | assumption | (refine Nat.le_trans ?_ (show 1000 ≤ PySem.sizeLine by decide); omega) | decide)
local macro_rules | `(tactic| walk_at "szl") => `(tactic| first | assumption | exact Nat.le_of_lt (L2.small1000 (by omega)) | decide | decide +kernel)
local macro_rules | `(tactic| walk_at "sys") => `(tactic| first | assumption | exact KN.SysAt.same (by assumption) (by assumption))
local macro_rules | `(tactic| walk_at "dk") => `(tactic| first | exact R.rowsS _ _ | exact R.rowsM _ _)
local macro_rules | `(tactic| walk_at "sqa") => `(tactic| first | assumption | exact R.SeqA.same (by assumption) (by assumption) | exact R.SeqA.new (by assumption) (by assumption) | (exact Or.inl (by walk_at "at")) | (exact Or.inr (by walk_at "at")))
local macro_rules | `(tactic| walk_at "ix") => `(tactic| first | rfl | (exact L2.atI_nat (by assumption)) | assumption)
local macro_rules | `(tactic| walk_at "cond") => `(tactic| first
  | exact Or.inl (by decide) | exact Or.inr (by decide) | exact Or.inl ⟨by omega, by omega⟩ | exact Or.inr ⟨by omega, by omega⟩
  | (constructor <;> omega) | (show _ ≠ _; omega) | decide | omega)
local macro_rules | `(tactic| walk_at "r1") => `(tactic| first
  | ((with_reducible refine R.var (v := ?v) ?h ?q); case h => rfl)
  | with_reducible apply R.cons
  | with_reducible apply R.c
  | with_reducible apply R.nil
  | with_reducible apply R.op
  | with_reducible apply R.gname
  | with_reducible apply R.seq
  | with_reducible apply R.call
  | with_reducible apply R.asg
  | with_reducible apply R.ex
  | with_reducible apply R.tst
  | with_reducible apply R.i0
  | with_reducible apply R.ifs
  | with_reducible apply R.ret
  | with_reducible apply R.retN
  | with_reducible apply R.drop
  | with_reducible apply R.next
  | with_reducible apply R.tb_
  | with_reducible apply R.eqI
  | with_reducible apply R.neI
  | ((with_reducible refine R.ic ?_ ?_); · walk_at "cond")
  | with_reducible apply R.u0
  | with_reducible apply R.un
  | ((with_reducible refine R.eq ?_ ?_); · rfl)
  | ((with_reducible refine R.ne ?_ ?_); · rfl)
  | with_reducible apply R.and_
  | with_reducible apply R.or_
  | with_reducible apply R.not_
  | with_reducible apply R.ife
  | with_reducible apply R.chain
  | with_reducible apply R.cb
  | with_reducible apply R.bm
  | with_reducible apply R.gsub
  | with_reducible apply R.gnil
  | with_reducible apply R.gcons
  | with_reducible apply R.yes
  | with_reducible apply R.int1
  | ((with_reducible refine R.lenL (xs := ?xs) ?h ?q); case h => walk_at "at")
  | ((with_reducible refine R.ixL (xs := ?xs) (v := ?v) ?h ?e ?q); (case h => walk_at "at"); (case e => walk_at "ix"))
  | ((with_reducible refine R.setL (xs := ?xs) (n := ?n) ?h ?e ?q); (case h => walk_at "at"); (case e => rfl))
  | ((with_reducible refine R.append (xs := ?xs) ?h ?e ?q); (case h => walk_at "at"); (case e => walk_at "cond"))
  | with_reducible apply R.is_
  | with_reducible apply R.isnot
  | with_reducible apply R.andV
  | with_reducible apply R.orV
  | with_reducible apply R.notV
  | ((with_reducible refine R.isi (s := ?s) (b := ?b) ?ty ?h ?q); (case ty => walk_at "ty"); (case h => walk_at "kit"))
  | ((with_reducible refine R.addS ?h ?q); (case h => walk_at "sz"))
  | with_reducible apply R.max2
  | with_reducible apply R.min2
  | ((with_reducible refine R.lenStr ?h ?q); (case h => walk_at "szl"))
  | ((with_reducible refine R.ixS (n := ?n) ?h ?e ?q); (case h => walk_at "szl"); (case e => walk_at "ix"))
  | ((with_reducible refine R.tyl (xs := ?xs) ?h ?q); (case h => walk_at "at"))
  | with_reducible apply R.itlist
  | with_reducible apply R.ittup
  | with_reducible apply R.m1
  | with_reducible apply R.m1s
  | with_reducible apply R.leS
  | with_reducible apply R.itstr
  | with_reducible apply R.itstrE
  | with_reducible apply R.lc
  | with_reducible apply R.lc2
  | with_reducible apply R.ckw
  | with_reducible apply R.par
  | with_reducible apply R.parE
  | with_reducible apply R.itrev
  | with_reducible apply R.dsetd
  | with_reducible apply R.dnotin_
  | with_reducible apply R.for_
  | ((with_reducible refine R.all_ (bs := ?bs) ?h ?q); (case h => walk_at "at"))
  | with_reducible apply R.rng1
  | ((with_reducible refine R.rngE ?h ?q); (case h => (constructor <;> omega)))
  | ((with_reducible refine R.lenT (xs := ?xs) ?h ?q); (case h => walk_at "sqt"))
  | ((with_reducible refine R.ixT (xs := ?xs) (v := ?v) ?h ?e ?q); (case h => walk_at "sqt"); (case e => walk_at "ix"))
  | ((refine R.itlE (xs := ?xs) ?h ?q); (case h => walk_at "at"))
  | ((refine R.ittE (xs := ?xs) ?h ?q); (case h => walk_at "at"))
  | ((refine R.gseq (xs := ?xs) ?h ?e ?q); (case h => walk_at "sqa"); (case e => rfl))
  | ((refine R.ixA (xs := ?xs) (v := ?v) ?h ?e ?q); (case h => walk_at "sqa"); (case e => walk_at "ix"))
  | ((refine R.lenA (xs := ?xs) ?h ?q); (case h => walk_at "sqa"))
  | ((with_reducible refine R.gtup (xs := ?xs) ?h ?e ?q); (case h => walk_at "sqt"); (case e => rfl))
  | with_reducible apply R.din_
  | with_reducible apply R.dput_
  | with_reducible apply R.dget2_
  | ((with_reducible refine R.aug_ (x := ?x) ?h ?q); case h => rfl)
  | with_reducible apply R.ipI_
  | with_reducible apply R.rng2
  | ((with_reducible refine R.rngE2 ?h ?q); (case h => (refine ⟨?_, ?_, ?_, ?_⟩ <;> omega)))
  | with_reducible apply R.brk
  | with_reducible apply R.intB
  | with_reducible apply R.meth_
  | ((refine KN.methS (rs := ?rs) (ms := ?ms) ?h (fun _ _ _ _ => rfl) ?q); case h => walk_at "sys")
  | with_reducible apply R.sl_
  | with_reducible apply R.np_
  | with_reducible apply R.pt_
  | with_reducible apply R.ptE
  | with_reducible apply R.dget_
  | with_reducible apply R.revL_
  | ((refine R.dgetS (kvs := ?kvs) (v := ?v) ?h ?e ?q); (case h => walk_at "at"); (case e => walk_at "dk"))
  | with_reducible apply R.sfld
  | with_reducible apply R.fld_
  | with_reducible apply R.dc
  | with_reducible apply R.dget1_
  | with_reducible apply R.itseq
  | with_reducible apply R.itenum
  | with_reducible apply R.itT
  | with_reducible apply R.itF
  | with_reducible apply R.itNT
  | with_reducible apply R.itNF
  | (with_reducible apply R.tup)
  | (with_reducible apply R.lst))
local macro_rules | `(tactic| walk_at "rd") => `(tactic| (repeat (first | walk_at "r1" | (dsimp only [Int.reduceToNat, List.set_cons_succ, List.set_cons_zero, List.length_cons, List.length_nil, List.nil_append, List.cons_append, List.append_nil]))))
local macro_rules | `(tactic| walk_at "go") => `(tactic| (rw [R.start_eq]; dsimp only [R.startE, List.map_nil]; walk_at "rd"))
namespace KN
open PySem L2 SX R
open C8 (Cal Def cal0 pe_c pe_gc fnScope fnBody pss_cut)
theorem passF {X : Cx} : Passes (L2.CX X.prog X.w) X (fun _ _ _ => False) := fun _ _ _ _ _ _ _ ⟨_, _, _, _, _, _, _, _, _, _, _, _, h⟩ => h.elim
section
variable {P : Program} {w : World} {K : PySem.W.Frag} {mg : Str → Option Value} {base : Heap}
abbrev sRows : Stmt := top 41
theorem scRows : FnScope ["pool", "kind"] ["pool"] (fnScope sRows) := ⟨rfl, rfl, rfl, by decide +kernel, rfl, by decide +kernel, by decide +kernel⟩
abbrev sShaped : Stmt := top 42
theorem scShaped : FnScope ["pool", "rows", "found", "row"] ["pool", "rows"] (fnScope sShaped) := ⟨rfl, rfl, rfl, by decide +kernel, rfl, by decide +kernel, by decide +kernel⟩
abbrev sMade : Stmt := top 46
theorem scMade : FnScope ["pool", "rows"] ["pool", "rows"] (fnScope sMade) := ⟨rfl, rfl, rfl, by decide +kernel, rfl, by decide +kernel, by decide +kernel⟩
theorem c_rows (Z : Zs mg) (c_take : Cal P w K mg base 2 "_law_take" spTake []) (c_drawn : Cal P w K mg base 4 "_law_drawn" (spDrawn 30 31 40) []) (c_nearly : Cal P w K mg base 5 "_law_nearly" (spDrawn 5 217 8) []) (c_regular : Cal P w K mg base 4 "_law_regular" spReg [])
    (c_english : Cal P w K mg base 3 "_law_english" (spDrawn 16 1000 99) []) {f : Addr} {fd : FuncData} (F : Def K mg "_law_rows" sRows f fd) (b : Binds K fd ["pool"] []) : Cal P w K mg base 6 "_law_rows" (spDrawn 30 1000 99) [] := by
  refine cal0 F b .nil scRows (fun vs H Q E h => ?_) (fun cdv A outer s H vs Q E hr h => ?_)
  · obtain ⟨p, l, cs, rfl, _⟩ := h
    rfl
  · obtain ⟨p, l, cs, rfl, hP, hl, k⟩ := h
    refine ⟨_, pss_cons (ps_set (i := 1) scRows.nd rfl (Or.inl rfl) (pe_c c_take hr (by omega) (by rfl) (pa_cons (pv 0) (pa_cons pe_int pa_nil))))
      (pss_cons (ps_if (pt_cmpR op_lt (pv 1) pe_int (nomark _))
        (pss_one (ps_ret (pe_c c_drawn hr (by omega) (by rfl) (pa_cons (pv 0) pa_nil))))
        (pss_nil))
      (pss_cons (ps_if (pt_cmpR op_lt (pv 1) pe_int (nomark _))
        (pss_one (ps_ret (pe_c c_nearly hr (by omega) (by rfl) (pa_cons (pv 0) pa_nil))))
        (pss_nil))
      (pss_one (ps_ret (pe_ifExp (pt_cmpR op_eq (pv 1) pe_int (nomark _)) (pe_c c_regular hr (by omega) (by rfl) (pa_cons (pv 0) pa_nil)) (pe_c c_english hr (by omega) (by rfl) (pa_cons (pv 0) pa_nil))))))), ?_⟩
    walk_at "go"
    refine r_take' hP (by omega) (by omega) (fun H1 d1 e1 P1 l1 u1 => ?_)
    have hl1 := e1 _ _ hP.ne hl
    walk_at "rd"
    refine it (fun h1 => ?_) (fun h1 => ?_)
    · walk_at "rd"
      exact ⟨p, l, cs, rfl, P1, hl1, fun H' r rs ms a b c d => k H' r rs ms (e1.trans a) b c (d.mono (by decide) (by decide) (by decide))⟩
    · walk_at "rd"
      refine it (fun h2 => ?_) (fun h2 => ?_)
      · walk_at "rd"
        exact ⟨p, l, cs, rfl, P1, hl1, fun H' r rs ms a b c d => k H' r rs ms (e1.trans a) b c (d.mono (by decide) (by decide) (by decide))⟩
      · walk_at "rd"
        refine it (fun h3 => ?_) (fun h3 => ?_)
        · walk_at "rd"
          exact ⟨p, l, cs, rfl, P1, hl1, fun H' r s m xs ys rs ms _ _ _ a b _ _ c1 c2 c3 c4 c5 d _ => k H' r rs ms (e1.trans a) b ⟨s, m, xs, ys, c1, c2, c3, c4, c5⟩ (d.mono (by decide) (by decide) (by decide))⟩
        · walk_at "rd"
          exact ⟨p, l, cs, rfl, P1, hl1, fun H' r rs ms a b c d => k H' r rs ms (e1.trans a) b c (d.mono (by decide) (by decide) (by decide))⟩
def spShaped : Sp := fun vs H Q _ => ∃ (p l s : Addr) (xs : List V) (ds : List (List V)), vs = [.ref p, .ref s] ∧ PoolAt H p l ∧ H s = some (.lst xs) ∧ TupsAt H xs ds ∧ ds.length ≤ 500 ∧
  ∀ (H' : Hp) (a : Addr), SameBut p H H' → PoolAt H' p l → a ≠ p → (∀ H2, SameBut p H' H2 → RowsIn H2 a ds) → Q (.ref a) H'
structure ShI (H H' : Hp) (p l D : Addr) (ds : List (List V)) (i : Nat) (acc : List V) : Prop where
  sb : SameBut p H H'
  P : PoolAt H' p l
  hD : H' D = some (.lst acc)
  len : acc.length = i
  D0 : H D = none
  Dp : D ≠ p
  Dl : D ≠ l
  it : ∀ (j : Nat) (d : List V), j < i → ds[j]? = some d → ∃ b, acc[j]? = some (.ref b) ∧ b ≠ p ∧ b ≠ D ∧ SeqA H' b d
theorem seqA_but {H H' : Hp} {b p : Addr} {d : List V} (e : SameBut p H H') (n : b ≠ p) (h : SeqA H b d) : SeqA H' b d := h.elim (fun z => .inl (e _ _ n z)) (fun z => .inr (e _ _ n z))
theorem ShI.take {H H' H2 : Hp} {p l D : Addr} {ds : List (List V)} {i : Nat} {acc : List V} (S : ShI H H' p l D ds i acc) (e : SameBut p H' H2) (P : PoolAt H2 p l) : ShI H H2 p l D ds i acc :=
  ⟨S.sb.trans e, P, e _ _ S.Dp S.hD, S.len, S.D0, S.Dp, S.Dl, fun j d h1 h2 => by obtain ⟨b, q1, q2, q3, q4⟩ := S.it j d h1 h2; exact ⟨b, q1, q2, q3, seqA_but e q2 q4⟩⟩
theorem ShI.app {H H' : Hp} {p l D b : Addr} {ds : List (List V)} {i : Nat} {acc : List V} {d : List V} (S : ShI H H' p l D ds i acc) (h : SeqA H' b d) (hd : ds[i]? = some d) (bp : b ≠ p) (bD : b ≠ D) : ShI H (upd H' D (.lst (acc ++ [.ref b]))) p l D ds (i + 1) (acc ++ [.ref b]) := by
  have keep : ∀ c d', c ≠ D → SeqA H' c d' → SeqA (upd H' D (.lst (acc ++ [.ref b]))) c d' := fun c d' n z => z.elim (fun z => .inl (by rw [upd_ne n]; exact z)) (fun z => .inr (by rw [upd_ne n]; exact z))
  refine ⟨S.sb.put' S.D0, S.P.put S.Dp S.Dl, upd_same, by rw [List.length_append, S.len]; rfl, S.D0, S.Dp, S.Dl, fun j d' h1 h2 => ?_⟩
  by_cases q : j < i
  · obtain ⟨c, q1, q2, q3, q4⟩ := S.it j d' q h2
    exact ⟨c, by rw [List.getElem?_append_left (by rw [S.len]; exact q)]; exact q1, q2, q3, keep c d' q3 q4⟩
  · have : j = i := by omega
    subst this
    rw [hd] at h2
    cases h2
    exact ⟨b, by rw [List.getElem?_append_right (by rw [S.len]; exact Nat.le_refl _), S.len, Nat.sub_self]; rfl, bp, bD, keep b d bD h⟩
theorem c_shaped (Z : Zs mg) (c_take : Cal P w K mg base 2 "_law_take" spTake []) {f : Addr} {fd : FuncData} (F : Def K mg "_law_shaped" sShaped f fd) (b : Binds K fd ["pool", "rows"] []) : Cal P w K mg base 3 "_law_shaped" spShaped [] := by
  refine cal0 F b .nil scShaped (fun vs H Q E h => ?_) (fun cdv A outer s H vs Q E hr h => ?_)
  · obtain ⟨p, l, s, xs, ds, rfl, _⟩ := h
    rfl
  · obtain ⟨p, l, s, xs, ds, rfl, hP, hs, hts, hdl, k⟩ := h
    refine ⟨_, pss_cons (ps_setLc (i := 2) (own := [("row", 3)]) (g := gName 3) (tt := tYes) rfl scShaped.nd rfl rfl (sw_true rfl rfl rfl (by decide +kernel)) (kiL K (pv 1)) (blkOk_by (own := [("row", 3)]) (N := ["pool", "rows", "found", "row"]) (sc := fnScope sShaped) (by decide +kernel)) (fun _ _ _ _ _ => (pg_name (i := 3) scShaped.nd rfl (Or.inl rfl))) (fun _ _ _ _ _ => pts_nil) (fun _ _ _ _ _ => pe_ix (kIxT K) (pe_tup (pa_cons (pe_callTy (kList K) (by rfl) Z.list (by decide +kernel) (pa_cons (pv 3) pa_nil)) (pa_cons (pv 3) pa_nil))) (pe_c c_take hr (by omega) (by rfl) (pa_cons (pv 0) (pa_cons pe_int pa_nil))) (fun _ _ => rfl)))
      (pss_one (ps_ret (pe_ix (kIxT K) (pe_tup (pa_cons (pv 2) (pa_cons (pe_callTy (kTuple K) (by rfl) Z.tuple (by decide +kernel) (pa_cons (pv 2) pa_nil)) pa_nil))) (pe_c c_take hr (by omega) (by rfl) (pa_cons (pv 0) (pa_cons pe_int pa_nil))) (fun _ _ => rfl)))), ?_⟩
    have lx := hts.len
    have sp := tups_ne hP hs hts
    walk_at "go"
    intro D hD
    obtain ⟨Dp, Dl⟩ := hP.nep hD
    refine lc_it (walk_list (K := K) (a := s) (xs := xs)) (fun i H' => ∃ acc, ShI H H' p l D ds i acc)
      ⟨[], SameBut.refl.new hD, hP.new hD, upd_same, rfl, hD, Dp, Dl, fun j d h => absurd h (Nat.not_lt_zero _)⟩ (fun i H' _ hh => by obtain ⟨acc, hh⟩ := hh; exact SqL.of (hh.sb _ _ sp hs)) ?_ ?_
    · rintro i x H1 H1' hi ⟨acc, S1⟩ ⟨rfl, hx⟩
      have hi' : i < ds.length := by omega
      have hdi : ds[i]? = some ds[i] := List.getElem?_eq_getElem hi'
      obtain ⟨a, hya, ha⟩ := hts.get i ds[i] hdi
      rw [hya] at hx
      cases hx
      have ap : a ≠ p := by
        rintro rfl
        obtain ⟨⟨_, _, _, _, h1, _⟩, _⟩ := hP
        rw [h1] at ha
        cases ha
      have ha1 := S1.sb _ _ ap ha
      have aD : a ≠ D := ne_of_none ha hD
      refine R.gname ⟨rfl, ?_⟩
      walk_at "rd"
      refine R.listT (SqT.of ha1) fun b2 hb2 => R.gen hb2 fun H2 s2 h2 => ?_
      have S2 := S1.take (SameBut.of s2) (S1.P.same s2)
      have ha2 := s2 _ _ ha1
      have b2p := (S1.P.nep hb2).1
      have b2D : b2 ≠ D := (ne_of_none S1.hD hb2).symm
      walk_at "rd"
      refine ⟨by decide, fun t ht => R.gen ht fun H3 s3 h3 => ?_⟩
      have S3 := S2.take (SameBut.of s3) (S2.P.same s3)
      have ha3 := s3 _ _ ha2
      have hb3 := s3 _ _ h2
      have tp := (S2.P.nep ht).1
      walk_at "rd"
      refine r_take' S3.P (by decide) (by decide) (fun H4 d4 e4 P4 l4 u4 => ?_)
      have S4 := S3.take e4 P4
      have h4 := e4 _ _ tp h3
      have hc : d4 = 0 ∨ d4 = 1 := by omega
      rcases hc with rfl | rfl
      · refine R.ixT (SqT.of h4) (v := .ref b2) rfl ?_
        exact ⟨acc, S4.hD, small1000 (by rw [S4.len]; omega), _, S4.app (.inl (e4 _ _ b2p hb3)) hdi b2p b2D⟩
      · refine R.ixT (SqT.of h4) (v := .ref a) rfl ?_
        exact ⟨acc, S4.hD, small1000 (by rw [S4.len]; omega), _, S4.app (.inr (e4 _ _ ap ha3)) hdi ap aD⟩
    · rintro H1 ⟨acc, S1⟩
      have hD1 := S1.hD
      walk_at "rd"
      refine R.tupL hD1 fun t ht => R.gen ht fun H2 s2 h2 => ?_
      have S2 := S1.take (SameBut.of s2) (S1.P.same s2)
      have tp := (S1.P.nep ht).1
      walk_at "rd"
      refine ⟨by decide, fun u hu => R.gen hu fun H3 s3 h3 => ?_⟩
      have S3 := S2.take (SameBut.of s3) (S2.P.same s3)
      have ht3 := s3 _ _ h2
      have up := (S2.P.nep hu).1
      walk_at "rd"
      refine r_take' S3.P (by decide) (by decide) (fun H4 d4 e4 P4 l4 u4 => ?_)
      have S4 := S3.take e4 P4
      have h4 := e4 _ _ up h3
      have items : ∀ (H5 : Hp), SameBut p H4 H5 → ∀ (i : Nat) (d : List V), ds[i]? = some d → ∃ b, acc[i]? = some (.ref b) ∧ SeqA H5 b d := fun H5 e5 i d hd => by
        have hi := (List.getElem?_eq_some_iff.mp hd).1
        obtain ⟨b, q1, q2, q3, q4⟩ := S4.it i d (by omega) hd
        exact ⟨b, q1, seqA_but e5 q2 q4⟩
      have hc : d4 = 0 ∨ d4 = 1 := by omega
      rcases hc with rfl | rfl
      · refine R.ixT (SqT.of h4) (v := .ref D) rfl ?_
        exact k H4 D S4.sb P4 Dp fun H5 e5 => ⟨acc, .inl (e5 _ _ Dp S4.hD), by rw [S4.len, lx], items H5 e5⟩
      · refine R.ixT (SqT.of h4) (v := .ref t) rfl ?_
        exact k H4 t S4.sb P4 tp fun H5 e5 => ⟨acc, .inr (e5 _ _ tp (e4 _ _ tp ht3)), by rw [S4.len, lx], items H5 e5⟩
def spMade (S : Addr) : Sp := fun vs H Q _ => ∃ (p l r : Addr) (rs : List SR) (ms : List MR), vs = [.ref p, .ref r] ∧ PoolAt H p l ∧ RowsAt H r rs ms ∧ GoodSys rs ms ∧
  ∀ (H' : Hp) (x : Addr), SameBut p H H' → PoolAt H' p l → SysAt S H' x rs ms → Q (.ref x) H'
theorem c_made (Z : Zs mg) {S C fS : Addr} {fdS : FuncData} (gS : mg "System" = some (.ref S)) (MS : Mk K S fS) (GS : FnOk P w K mg base (L2.CX P w) 4 fS fdS ["self", "simple", "multipliers"] (spSysI S C)) (bS : Binds K fdS ["self", "simple", "multipliers"] [])
    (c_shaped : Cal P w K mg base 3 "_law_shaped" spShaped []) {f : Addr} {fd : FuncData} (F : Def K mg "_law_made" sMade f fd) (b : Binds K fd ["pool", "rows"] []) : Cal P w K mg base 6 "_law_made" (spMade S) [] := by
  refine cal0 F b .nil scMade (fun vs H Q E h => ?_) (fun cdv A outer s H vs Q E hr h => ?_)
  · obtain ⟨p, l, r, rs, ms, rfl, _⟩ := h
    rfl
  · obtain ⟨p, l, r, rs, ms, rfl, hP, hR, hg, k⟩ := h
    refine ⟨_, pss_one (ps_ret (pe_make MS GS (hr.mono (by omega)) rfl gS bS .nil passF (pa_cons (pe_c c_shaped hr (by omega) (by rfl) (pa_cons (pv 0) (pa_cons (pe_dget (hu_of hr) (pv 1) pe_str (fun _ _ => rfl)) pa_nil))) (pa_cons (pe_c c_shaped hr (by omega) (by rfl) (pa_cons (pv 0) (pa_cons (pe_dget (hu_of hr) (pv 1) pe_str (fun _ _ => rfl)) pa_nil))) pa_nil)))), ?_⟩
    obtain ⟨s, m, xs, ys, hr0, hs, hts, hm, htm⟩ := id hR
    have sl := hg.sl
    have ml := hg.ml
    walk_at "go"
    unfold tMake
    walk_at "rd"
    refine ⟨p, l, s, xs, _, rfl, hP, hs, hts, by rw [List.length_map]; omega, fun H1 a e1 P1 ap ra => ?_⟩
    obtain ⟨s', m', xs', ys', hr1, hs1, hts1, hm1, htm1⟩ := hR.pool hP e1
    walk_at "rd"
    refine ⟨p, l, m', ys', _, rfl, P1, hm1, htm1, by rw [List.length_map]; omega, fun H2 c e2 P2 cp rc => ?_⟩
    walk_at "rd"
    intro x dx hx hdx ndx
    have s0 : Same H2 (upd (upd H2 dx (.own x)) x (.ins S dx [])) := same_put (same_put (Same.refl H2) hdx) hx
    have e3 : SameBut p H1 (upd (upd H2 dx (.own x)) x (.ins S dx [])) := e2.trans (SameBut.of s0)
    refine ⟨x, dx, a, c, rs.map srV, ms.map mrV, rfl, upd_same, ra _ e3, rc _ (SameBut.of s0), .inr ⟨rs, ms, rfl, rfl, hg, fun H3 e4 hsys => ?_⟩⟩
    have xp := (P2.nep hx).1
    have xl := (P2.nep hx).2
    have e5 : SameBut p H2 H3 := fun b o hb h => e4 b o (ne_of_none h hx) (s0 _ _ h)
    have P3 : PoolAt H3 p l := by
      have := P2.same s0
      obtain ⟨⟨cs, i, d, z, q1, q2, q3⟩, q4⟩ := this
      exact ⟨⟨cs, i, d, z, e4 _ _ xp.symm q1, e4 _ _ xl.symm q2, q3⟩, q4⟩
    exact ⟨rfl, k H3 x ((e1.trans e2).trans e5) P3 hsys⟩
end
end KN
end
section
set_option Elab.async false
set_option linter.all false
set_option maxRecDepth 100000
set_option maxHeartbeats 4000000
set_option pp.maxSteps 1500
set_option pp.deepTerms false
local macro_rules | `(tactic| walk_at "ne") => `(tactic| first
  | assumption | (apply Ne.symm; assumption)
  | exact R.ne_new (by assumption) | exact (R.ne_new (by assumption)).symm
  | exact L2.ne_of_none (by assumption) (by assumption) | exact (L2.ne_of_none (by assumption) (by assumption)).symm
  | exact L2.ne_of_none (by assumption) (R.free_new (by assumption)) | exact (L2.ne_of_none (by assumption) (R.free_new (by assumption))).symm)
local macro_rules | `(tactic| walk_at "at") => `(tactic| first
  | assumption | exact L2.upd_same
  | (refine R.sb (H := ?H) (p := ?p) ?e ?n ?h; (case e => assumption); (case n => walk_at "ne"); (case h => walk_at "at"))
  | (refine R.sm (H := ?H) ?e ?h; (case e => assumption); (case h => walk_at "at"))
  | (refine Eq.trans (L2.upd_ne ?_) ?_ <;> first | walk_at "ne" | walk_at "at"))
local macro_rules | `(tactic| walk_at "sqt") => `(tactic| first | assumption | (refine L2.SqT.of ?_; walk_at "at"))
local macro_rules | `(tactic| walk_at "ty") => `(tactic| first | exact R.tyN | exact R.tyB | exact R.tyI | exact R.tyS | (refine R.tyT (xs := ?xs) ?h; case h => walk_at "at") | (refine R.tyL (xs := ?xs) ?h; case h => walk_at "at"))
local macro_rules | `(tactic| walk_at "kit") => `(tactic| first | exact R.kit_NoneType_tuple | exact R.kit_NoneType_list | exact R.kit_NoneType_bool | exact R.kit_NoneType_str | exact R.kit_NoneType_int | exact R.kit_bool_tuple | exact R.kit_bool_list | exact R.kit_bool_bool | exact R.kit_bool_str | exact R.kit_bool_int | exact R.kit_int_tuple | exact R.kit_int_list | exact R.kit_int_bool | exact R.kit_int_str | exact R.kit_int_int | exact R.kit_str_tuple | exact R.kit_str_list | exact R.kit_str_bool | exact R.kit_str_str | exact R.kit_str_int | exact R.kit_tuple_tuple | exact R.kit_tuple_list | exact R.kit_tuple_bool | exact R.kit_tuple_str | exact R.kit_tuple_int | exact R.kit_list_tuple | exact R.kit_list_list | exact R.kit_list_bool | exact R.kit_list_str | exact R.kit_list_int)
local macro_rules | `(tactic| walk_at "sz") => `(tactic| first | assumption | (refine Nat.le_trans ?_ (show 1000 ≤ PySem.sizeLine by decide); omega) | decide)
local macro_rules | `(tactic| walk_at "szl") => `(tactic| first | assumption | exact Nat.le_of_lt (L2.small1000 (by omega)) | decide | decide +kernel)
local macro_rules | `(tactic| walk_at "sys") => `(tactic| first | assumption | exact KN.SysAt.same (by assumption) (by assumption))
local macro_rules | `(tactic| walk_at "dk") => `(tactic| first | exact R.rowsS _ _ | exact R.rowsM _ _)
local macro_rules | `(tactic| walk_at "sqa") => `(tactic| first | assumption | exact R.SeqA.same (by assumption) (by assumption) | exact R.SeqA.new (by assumption) (by assumption) | (exact Or.inl (by walk_at "at")) | (exact Or.inr (by walk_at "at")))
local macro_rules | `(tactic| walk_at "ix") => `(tactic| first | rfl | (exact L2.atI_nat (by assumption)) | assumption)
local macro_rules | `(tactic| walk_at "cond") => `(tactic| first
  | exact Or.inl (by decide) | exact Or.inr (by decide) | exact Or.inl ⟨by omega, by omega⟩ | exact Or.inr ⟨by omega, by omega⟩
  | (constructor <;> omega) | (show _ ≠ _; omega) | decide | omega)
local macro_rules | `(tactic| walk_at "r1") => `(tactic| first
  | ((with_reducible refine R.var (v := ?v) ?h ?q); case h => rfl)
  | with_reducible apply R.cons
  | with_reducible apply R.c
  | with_reducible apply R.nil
  | with_reducible apply R.op
  | with_reducible apply R.gname
  | with_reducible apply R.seq
  | with_reducible apply R.call
  | with_reducible apply R.asg
  | with_reducible apply R.ex
  | with_reducible apply R.tst
  | with_reducible apply R.i0
  | with_reducible apply R.ifs
  | with_reducible apply R.ret
  | with_reducible apply R.retN
  | with_reducible apply R.drop
  | with_reducible apply R.next
  | with_reducible apply R.tb_
  | with_reducible apply R.eqI
  | with_reducible apply R.neI
  | ((with_reducible refine R.ic ?_ ?_); · walk_at "cond")
  | with_reducible apply R.u0
  | with_reducible apply R.un
  | ((with_reducible refine R.eq ?_ ?_); · rfl)
  | ((with_reducible refine R.ne ?_ ?_); · rfl)
  | with_reducible apply R.and_
  | with_reducible apply R.or_
  | with_reducible apply R.not_
  | with_reducible apply R.ife
  | with_reducible apply R.chain
  | with_reducible apply R.cb
  | with_reducible apply R.bm
  | with_reducible apply R.gsub
  | with_reducible apply R.gnil
  | with_reducible apply R.gcons
  | with_reducible apply R.yes
  | with_reducible apply R.int1
  | ((with_reducible refine R.lenL (xs := ?xs) ?h ?q); case h => walk_at "at")
  | ((with_reducible refine R.ixL (xs := ?xs) (v := ?v) ?h ?e ?q); (case h => walk_at "at"); (case e => walk_at "ix"))
  | ((with_reducible refine R.setL (xs := ?xs) (n := ?n) ?h ?e ?q); (case h => walk_at "at"); (case e => rfl))
  | ((with_reducible refine R.append (xs := ?xs) ?h ?e ?q); (case h => walk_at "at"); (case e => walk_at "cond"))
  | with_reducible apply R.is_
  | with_reducible apply R.isnot
  | with_reducible apply R.andV
  | with_reducible apply R.orV
  | with_reducible apply R.notV
  | ((with_reducible refine R.isi (s := ?s) (b := ?b) ?ty ?h ?q); (case ty => walk_at "ty"); (case h => walk_at "kit"))
  | ((with_reducible refine R.addS ?h ?q); (case h => walk_at "sz"))
  | with_reducible apply R.max2
  | with_reducible apply R.min2
  | ((with_reducible refine R.lenStr ?h ?q); (case h => walk_at "szl"))
  | ((with_reducible refine R.ixS (n := ?n) ?h ?e ?q); (case h => walk_at "szl"); (case e => walk_at "ix"))
  | ((with_reducible refine R.tyl (xs := ?xs) ?h ?q); (case h => walk_at "at"))
  | with_reducible apply R.itlist
  | with_reducible apply R.ittup
  | with_reducible apply R.m1
  | with_reducible apply R.m1s
  | with_reducible apply R.leS
  | with_reducible apply R.itstr
  | with_reducible apply R.itstrE
  | with_reducible apply R.lc
  | with_reducible apply R.lc2
  | with_reducible apply R.ckw
  | with_reducible apply R.par
  | with_reducible apply R.parE
  | with_reducible apply R.itrev
  | with_reducible apply R.dsetd
  | with_reducible apply R.dnotin_
  | with_reducible apply R.for_
  | ((with_reducible refine R.all_ (bs := ?bs) ?h ?q); (case h => walk_at "at"))
  | with_reducible apply R.rng1
  | ((with_reducible refine R.rngE ?h ?q); (case h => (constructor <;> omega)))
  | ((with_reducible refine R.lenT (xs := ?xs) ?h ?q); (case h => walk_at "sqt"))
  | ((with_reducible refine R.ixT (xs := ?xs) (v := ?v) ?h ?e ?q); (case h => walk_at "sqt"); (case e => walk_at "ix"))
  | ((refine R.itlE (xs := ?xs) ?h ?q); (case h => walk_at "at"))
  | ((refine R.ittE (xs := ?xs) ?h ?q); (case h => walk_at "at"))
  | ((refine R.gseq (xs := ?xs) ?h ?e ?q); (case h => walk_at "sqa"); (case e => rfl))
  | ((refine R.ixA (xs := ?xs) (v := ?v) ?h ?e ?q); (case h => walk_at "sqa"); (case e => walk_at "ix"))
  | ((refine R.lenA (xs := ?xs) ?h ?q); (case h => walk_at "sqa"))
  | ((with_reducible refine R.gtup (xs := ?xs) ?h ?e ?q); (case h => walk_at "sqt"); (case e => rfl))
  | with_reducible apply R.din_
  | with_reducible apply R.dput_
  | with_reducible apply R.dget2_
  | ((with_reducible refine R.aug_ (x := ?x) ?h ?q); case h => rfl)
  | with_reducible apply R.ipI_
  | with_reducible apply R.rng2
  | ((with_reducible refine R.rngE2 ?h ?q); (case h => (refine ⟨?_, ?_, ?_, ?_⟩ <;> omega)))
  | with_reducible apply R.brk
  | with_reducible apply R.intB
  | with_reducible apply R.meth_
  | ((refine KN.methS (rs := ?rs) (ms := ?ms) ?h (fun _ _ _ _ => rfl) ?q); case h => walk_at "sys")
  | with_reducible apply R.sl_
  | with_reducible apply R.np_
  | with_reducible apply R.pt_
  | with_reducible apply R.ptE
  | with_reducible apply R.dget_
  | with_reducible apply R.revL_
  | ((refine R.dgetS (kvs := ?kvs) (v := ?v) ?h ?e ?q); (case h => walk_at "at"); (case e => walk_at "dk"))
  | with_reducible apply R.sfld
  | with_reducible apply R.fld_
  | with_reducible apply R.dc
  | with_reducible apply R.dget1_
  | with_reducible apply R.itseq
  | with_reducible apply R.itenum
  | with_reducible apply R.itT
  | with_reducible apply R.itF
  | with_reducible apply R.itNT
  | with_reducible apply R.itNF
  | (with_reducible apply R.tup)
  | (with_reducible apply R.lst))
local macro_rules | `(tactic| walk_at "rd") => `(tactic| (repeat (first | walk_at "r1" | (dsimp only [Int.reduceToNat, List.set_cons_succ, List.set_cons_zero, List.length_cons, List.length_nil, List.nil_append, List.cons_append, List.append_nil]))))
local macro_rules | `(tactic| walk_at "go") => `(tactic| (rw [R.start_eq]; dsimp only [R.startE, List.map_nil]; walk_at "rd"))
namespace R
open PySem L2 SX C8
section
variable {X : Cx} (K : PySem.W.Frag)
/-- a value's truth as a test -/
def tTr (K : PySem.W.Frag) (ta : TE) : TT := fun σ H Q => ta σ H fun x H' => ∃ k, TruV K x H' k ∧ Q k H'
end
section
variable {σ : L2.St} {H : Hp} {te to : TE} {Q : VK} {K : PySem.W.Frag} {xs : List V} {a : Addr}
theorem tr_ {QB : Bool → Hp → Prop} (q : te σ H fun x H' => ∃ k, TruV K x H' k ∧ QB k H') : tTr K te σ H QB := q
theorem callN {n m : Nat} {sp : Sp} {gV : List V → List V → List V} {E : XK} {t tk : TA} (q : t σ H fun vs H1 => tk σ H1 fun zs H2 => vs.length = n ∧ zs.length = m ∧ sp (gV vs zs) H2 Q E) : tCallN n m sp gV E t tk σ H Q := q
theorem rng3 {ar : TA} {R : It → Hp → Prop} (q : ar σ H fun vs H1 => ∃ (i j c : Int) (n : Nat), vs = [.int i, .int j, .int c] ∧ RgC i j c n ∧ R (Itc i c n) H1) : iRng3 ar σ H R := q
theorem bits (q : to σ H fun x H1 => ∃ i, x = .int i ∧ Q (.int (Builtin.Int.intBits i : Nat)) H1) : tBits to σ H Q := q
theorem dnewT (q : ∀ p, H p = none → Q (.ref p) (upd H p (.dT []))) : tDNewT σ H Q := q
end
end R
end
section
set_option Elab.async false
set_option linter.all false
set_option maxRecDepth 100000
set_option maxHeartbeats 4000000
set_option pp.maxSteps 1500
set_option pp.deepTerms false
local macro_rules | `(tactic| walk_at "ne") => `(tactic| first
  | assumption | (apply Ne.symm; assumption)
  | exact R.ne_new (by assumption) | exact (R.ne_new (by assumption)).symm
  | exact L2.ne_of_none (by assumption) (by assumption) | exact (L2.ne_of_none (by assumption) (by assumption)).symm
  | exact L2.ne_of_none (by assumption) (R.free_new (by assumption)) | exact (L2.ne_of_none (by assumption) (R.free_new (by assumption))).symm)
local macro_rules | `(tactic| walk_at "at") => `(tactic| first
  | assumption | exact L2.upd_same
  | (refine R.sb (H := ?H) (p := ?p) ?e ?n ?h; (case e => assumption); (case n => walk_at "ne"); (case h => walk_at "at"))
  | (refine R.sm (H := ?H) ?e ?h; (case e => assumption); (case h => walk_at "at"))
  | (refine Eq.trans (L2.upd_ne ?_) ?_ <;> first | walk_at "ne" | walk_at "at"))
local macro_rules | `(tactic| walk_at "sqt") => `(tactic| first | assumption | (refine L2.SqT.of ?_; walk_at "at"))
local macro_rules | `(tactic| walk_at "ty") => `(tactic| first | exact R.tyN | exact R.tyB | exact R.tyI | exact R.tyS | (refine R.tyT (xs := ?xs) ?h; case h => walk_at "at") | (refine R.tyL (xs := ?xs) ?h; case h => walk_at "at"))
local macro_rules | `(tactic| walk_at "kit") => `(tactic| first | exact R.kit_NoneType_tuple | exact R.kit_NoneType_list | exact R.kit_NoneType_bool | exact R.kit_NoneType_str | exact R.kit_NoneType_int | exact R.kit_bool_tuple | exact R.kit_bool_list | exact R.kit_bool_bool | exact R.kit_bool_str | exact R.kit_bool_int | exact R.kit_int_tuple | exact R.kit_int_list | exact R.kit_int_bool | exact R.kit_int_str | exact R.kit_int_int | exact R.kit_str_tuple | exact R.kit_str_list | exact R.kit_str_bool | exact R.kit_str_str | exact R.kit_str_int | exact R.kit_tuple_tuple | exact R.kit_tuple_list | exact R.kit_tuple_bool | exact R.kit_tuple_str | exact R.kit_tuple_int | exact R.kit_list_tuple | exact R.kit_list_list | exact R.kit_list_bool | exact R.kit_list_str | exact R.kit_list_int)
local macro_rules | `(tactic| walk_at "sz") => `(tactic| first | assumption | (refine Nat.le_trans ?_ (show 1000 ≤ PySem.sizeLine by decide); omega) | decide)
local macro_rules | `(tactic| walk_at "szl") => `(tactic| first | assumption | exact Nat.le_of_lt (L2.small1000 (by omega)) | decide | decide +kernel)
local macro_rules | `(tactic| walk_at "sys") => `(tactic| first | assumption | exact KN.SysAt.same (by assumption) (by assumption))
local macro_rules | `(tactic| walk_at "dk") => `(tactic| first | exact R.rowsS _ _ | exact R.rowsM _ _)
local macro_rules | `(tactic| walk_at "sqa") => `(tactic| first | assumption | exact R.SeqA.same (by assumption) (by assumption) | exact R.SeqA.new (by assumption) (by assumption) | (exact Or.inl (by walk_at "at")) | (exact Or.inr (by walk_at "at")))
local macro_rules | `(tactic| walk_at "ix") => `(tactic| first | rfl | (exact L2.atI_nat (by assumption)) | assumption)
local macro_rules | `(tactic| walk_at "cond") => `(tactic| first
  | exact Or.inl (by decide) | exact Or.inr (by decide) | exact Or.inl ⟨by omega, by omega⟩ | exact Or.inr ⟨by omega, by omega⟩
  | (constructor <;> omega) | (show _ ≠ _; omega) | decide | omega)
local macro_rules | `(tactic| walk_at "r1") => `(tactic| first
  | ((with_reducible refine R.var (v := ?v) ?h ?q); case h => rfl)
  | with_reducible apply R.cons
  | with_reducible apply R.c
  | with_reducible apply R.nil
  | with_reducible apply R.op
  | with_reducible apply R.gname
  | with_reducible apply R.seq
  | with_reducible apply R.call
  | with_reducible apply R.asg
  | with_reducible apply R.ex
  | with_reducible apply R.tst
  | with_reducible apply R.i0
  | with_reducible apply R.ifs
  | with_reducible apply R.ret
  | with_reducible apply R.retN
  | with_reducible apply R.drop
  | with_reducible apply R.next
  | with_reducible apply R.tb_
  | with_reducible apply R.eqI
  | with_reducible apply R.neI
  | ((with_reducible refine R.ic ?_ ?_); · walk_at "cond")
  | with_reducible apply R.u0
  | with_reducible apply R.un
  | ((with_reducible refine R.eq ?_ ?_); · rfl)
  | ((with_reducible refine R.ne ?_ ?_); · rfl)
  | with_reducible apply R.and_
  | with_reducible apply R.or_
  | with_reducible apply R.not_
  | with_reducible apply R.ife
  | with_reducible apply R.chain
  | with_reducible apply R.cb
  | with_reducible apply R.bm
  | with_reducible apply R.gsub
  | with_reducible apply R.gnil
  | with_reducible apply R.gcons
  | with_reducible apply R.yes
  | with_reducible apply R.int1
  | ((with_reducible refine R.lenL (xs := ?xs) ?h ?q); case h => walk_at "at")
  | ((with_reducible refine R.ixL (xs := ?xs) (v := ?v) ?h ?e ?q); (case h => walk_at "at"); (case e => walk_at "ix"))
  | ((with_reducible refine R.setL (xs := ?xs) (n := ?n) ?h ?e ?q); (case h => walk_at "at"); (case e => rfl))
  | ((with_reducible refine R.append (xs := ?xs) ?h ?e ?q); (case h => walk_at "at"); (case e => walk_at "cond"))
  | with_reducible apply R.is_
  | with_reducible apply R.isnot
  | with_reducible apply R.andV
  | with_reducible apply R.orV
  | with_reducible apply R.notV
  | ((with_reducible refine R.isi (s := ?s) (b := ?b) ?ty ?h ?q); (case ty => walk_at "ty"); (case h => walk_at "kit"))
  | ((with_reducible refine R.addS ?h ?q); (case h => walk_at "sz"))
  | with_reducible apply R.max2
  | with_reducible apply R.min2
  | ((with_reducible refine R.lenStr ?h ?q); (case h => walk_at "szl"))
  | ((with_reducible refine R.ixS (n := ?n) ?h ?e ?q); (case h => walk_at "szl"); (case e => walk_at "ix"))
  | ((with_reducible refine R.tyl (xs := ?xs) ?h ?q); (case h => walk_at "at"))
  | with_reducible apply R.itlist
  | with_reducible apply R.ittup
  | with_reducible apply R.m1
  | with_reducible apply R.m1s
  | with_reducible apply R.leS
  | with_reducible apply R.itstr
  | with_reducible apply R.itstrE
  | with_reducible apply R.lc
  | with_reducible apply R.lc2
  | with_reducible apply R.ckw
  | with_reducible apply R.par
  | with_reducible apply R.parE
  | with_reducible apply R.itrev
  | with_reducible apply R.dsetd
  | with_reducible apply R.dnotin_
  | with_reducible apply R.for_
  | ((with_reducible refine R.all_ (bs := ?bs) ?h ?q); (case h => walk_at "at"))
  | with_reducible apply R.rng1
  | ((with_reducible refine R.rngE ?h ?q); (case h => (constructor <;> omega)))
  | ((with_reducible refine R.lenT (xs := ?xs) ?h ?q); (case h => walk_at "sqt"))
  | ((with_reducible refine R.ixT (xs := ?xs) (v := ?v) ?h ?e ?q); (case h => walk_at "sqt"); (case e => walk_at "ix"))
  | ((refine R.itlE (xs := ?xs) ?h ?q); (case h => walk_at "at"))
  | ((refine R.ittE (xs := ?xs) ?h ?q); (case h => walk_at "at"))
  | ((refine R.gseq (xs := ?xs) ?h ?e ?q); (case h => walk_at "sqa"); (case e => rfl))
  | ((refine R.ixA (xs := ?xs) (v := ?v) ?h ?e ?q); (case h => walk_at "sqa"); (case e => walk_at "ix"))
  | ((refine R.lenA (xs := ?xs) ?h ?q); (case h => walk_at "sqa"))
  | ((with_reducible refine R.gtup (xs := ?xs) ?h ?e ?q); (case h => walk_at "sqt"); (case e => rfl))
  | with_reducible apply R.din_
  | with_reducible apply R.dput_
  | with_reducible apply R.dget2_
  | ((with_reducible refine R.aug_ (x := ?x) ?h ?q); case h => rfl)
  | with_reducible apply R.ipI_
  | with_reducible apply R.rng2
  | ((with_reducible refine R.rngE2 ?h ?q); (case h => (refine ⟨?_, ?_, ?_, ?_⟩ <;> omega)))
  | with_reducible apply R.brk
  | with_reducible apply R.intB
  | with_reducible apply R.meth_
  | ((refine KN.methS (rs := ?rs) (ms := ?ms) ?h (fun _ _ _ _ => rfl) ?q); case h => walk_at "sys")
  | with_reducible apply R.sl_
  | with_reducible apply R.np_
  | with_reducible apply R.pt_
  | with_reducible apply R.ptE
  | with_reducible apply R.dget_
  | with_reducible apply R.revL_
  | ((refine R.dgetS (kvs := ?kvs) (v := ?v) ?h ?e ?q); (case h => walk_at "at"); (case e => walk_at "dk"))
  | with_reducible apply R.sfld
  | with_reducible apply R.fld_
  | with_reducible apply R.dc
  | with_reducible apply R.dget1_
  | with_reducible apply R.itseq
  | with_reducible apply R.itenum
  | with_reducible apply R.itT
  | with_reducible apply R.itF
  | with_reducible apply R.itNT
  | with_reducible apply R.itNF
  | (with_reducible apply R.tup)
  | (with_reducible apply R.lst))
local macro_rules | `(tactic| walk_at "rd") => `(tactic| (repeat (first | walk_at "r1" | (dsimp only [Int.reduceToNat, List.set_cons_succ, List.set_cons_zero, List.length_cons, List.length_nil, List.nil_append, List.cons_append, List.append_nil]))))
local macro_rules | `(tactic| walk_at "go") => `(tactic| (rw [R.start_eq]; dsimp only [R.startE, List.map_nil]; walk_at "rd"))
local macro_rules | `(tactic| walk_at "r1") => `(tactic| first | with_reducible apply R.callN | with_reducible apply R.tr_ | with_reducible apply R.rng3 | with_reducible apply R.bits | with_reducible apply R.dnewT)
-- RTX
namespace R
open PySem L2 SX C8
end R
end
section
set_option Elab.async false
set_option linter.all false
set_option maxRecDepth 100000
set_option maxHeartbeats 4000000
set_option pp.maxSteps 1500
set_option pp.deepTerms false
local macro_rules | `(tactic| walk_at "ne") => `(tactic| first
  | assumption | (apply Ne.symm; assumption)
  | exact R.ne_new (by assumption) | exact (R.ne_new (by assumption)).symm
  | exact L2.ne_of_none (by assumption) (by assumption) | exact (L2.ne_of_none (by assumption) (by assumption)).symm
  | exact L2.ne_of_none (by assumption) (R.free_new (by assumption)) | exact (L2.ne_of_none (by assumption) (R.free_new (by assumption))).symm)
local macro_rules | `(tactic| walk_at "at") => `(tactic| first
  | assumption | exact L2.upd_same
  | (refine R.sb (H := ?H) (p := ?p) ?e ?n ?h; (case e => assumption); (case n => walk_at "ne"); (case h => walk_at "at"))
  | (refine R.sm (H := ?H) ?e ?h; (case e => assumption); (case h => walk_at "at"))
  | (refine Eq.trans (L2.upd_ne ?_) ?_ <;> first | walk_at "ne" | walk_at "at"))
local macro_rules | `(tactic| walk_at "sqt") => `(tactic| first | assumption | (refine L2.SqT.of ?_; walk_at "at"))
local macro_rules | `(tactic| walk_at "ty") => `(tactic| first | exact R.tyN | exact R.tyB | exact R.tyI | exact R.tyS | (refine R.tyT (xs := ?xs) ?h; case h => walk_at "at") | (refine R.tyL (xs := ?xs) ?h; case h => walk_at "at"))
local macro_rules | `(tactic| walk_at "kit") => `(tactic| first | exact R.kit_NoneType_tuple | exact R.kit_NoneType_list | exact R.kit_NoneType_bool | exact R.kit_NoneType_str | exact R.kit_NoneType_int | exact R.kit_bool_tuple | exact R.kit_bool_list | exact R.kit_bool_bool | exact R.kit_bool_str | exact R.kit_bool_int | exact R.kit_int_tuple | exact R.kit_int_list | exact R.kit_int_bool | exact R.kit_int_str | exact R.kit_int_int | exact R.kit_str_tuple | exact R.kit_str_list | exact R.kit_str_bool | exact R.kit_str_str | exact R.kit_str_int | exact R.kit_tuple_tuple | exact R.kit_tuple_list | exact R.kit_tuple_bool | exact R.kit_tuple_str | exact R.kit_tuple_int | exact R.kit_list_tuple | exact R.kit_list_list | exact R.kit_list_bool | exact R.kit_list_str | exact R.kit_list_int)
local macro_rules | `(tactic| walk_at "sz") => `(tactic| first | assumption | (refine Nat.le_trans ?_ (show 1000 ≤ PySem.sizeLine by decide); omega) | decide)
local macro_rules | `(tactic| walk_at "szl") => `(tactic| first | assumption | exact Nat.le_of_lt (L2.small1000 (by omega)) | decide | decide +kernel)
local macro_rules | `(tactic| walk_at "sys") => `(tactic| first | assumption | exact KN.SysAt.same (by assumption) (by assumption))
local macro_rules | `(tactic| walk_at "dk") => `(tactic| first | exact R.rowsS _ _ | exact R.rowsM _ _)
local macro_rules | `(tactic| walk_at "sqa") => `(tactic| first | assumption | exact R.SeqA.same (by assumption) (by assumption) | exact R.SeqA.new (by assumption) (by assumption) | (exact Or.inl (by walk_at "at")) | (exact Or.inr (by walk_at "at")))
local macro_rules | `(tactic| walk_at "ix") => `(tactic| first | rfl | (exact L2.atI_nat (by assumption)) | assumption)
local macro_rules | `(tactic| walk_at "cond") => `(tactic| first
  | exact Or.inl (by decide) | exact Or.inr (by decide) | exact Or.inl ⟨by omega, by omega⟩ | exact Or.inr ⟨by omega, by omega⟩
  | (constructor <;> omega) | (show _ ≠ _; omega) | decide | omega)
local macro_rules | `(tactic| walk_at "r1") => `(tactic| first
  | ((with_reducible refine R.var (v := ?v) ?h ?q); case h => rfl)
  | with_reducible apply R.cons
  | with_reducible apply R.c
  | with_reducible apply R.nil
  | with_reducible apply R.op
  | with_reducible apply R.gname
  | with_reducible apply R.seq
  | with_reducible apply R.call
  | with_reducible apply R.asg
  | with_reducible apply R.ex
  | with_reducible apply R.tst
  | with_reducible apply R.i0
  | with_reducible apply R.ifs
  | with_reducible apply R.ret
  | with_reducible apply R.retN
  | with_reducible apply R.drop
  | with_reducible apply R.next
  | with_reducible apply R.tb_
  | with_reducible apply R.eqI
  | with_reducible apply R.neI
  | ((with_reducible refine R.ic ?_ ?_); · walk_at "cond")
  | with_reducible apply R.u0
  | with_reducible apply R.un
  | ((with_reducible refine R.eq ?_ ?_); · rfl)
  | ((with_reducible refine R.ne ?_ ?_); · rfl)
  | with_reducible apply R.and_
  | with_reducible apply R.or_
  | with_reducible apply R.not_
  | with_reducible apply R.ife
  | with_reducible apply R.chain
  | with_reducible apply R.cb
  | with_reducible apply R.bm
  | with_reducible apply R.gsub
  | with_reducible apply R.gnil
  | with_reducible apply R.gcons
  | with_reducible apply R.yes
  | with_reducible apply R.int1
  | ((with_reducible refine R.lenL (xs := ?xs) ?h ?q); case h => walk_at "at")
  | ((with_reducible refine R.ixL (xs := ?xs) (v := ?v) ?h ?e ?q); (case h => walk_at "at"); (case e => walk_at "ix"))
  | ((with_reducible refine R.setL (xs := ?xs) (n := ?n) ?h ?e ?q); (case h => walk_at "at"); (case e => rfl))
  | ((with_reducible refine R.append (xs := ?xs) ?h ?e ?q); (case h => walk_at "at"); (case e => walk_at "cond"))
  | with_reducible apply R.is_
  | with_reducible apply R.isnot
  | with_reducible apply R.andV
  | with_reducible apply R.orV
  | with_reducible apply R.notV
  | ((with_reducible refine R.isi (s := ?s) (b := ?b) ?ty ?h ?q); (case ty => walk_at "ty"); (case h => walk_at "kit"))
  | ((with_reducible refine R.addS ?h ?q); (case h => walk_at "sz"))
  | with_reducible apply R.max2
  | with_reducible apply R.min2
  | ((with_reducible refine R.lenStr ?h ?q); (case h => walk_at "szl"))
  | ((with_reducible refine R.ixS (n := ?n) ?h ?e ?q); (case h => walk_at "szl"); (case e => walk_at "ix"))
  | ((with_reducible refine R.tyl (xs := ?xs) ?h ?q); (case h => walk_at "at"))
  | with_reducible apply R.itlist
  | with_reducible apply R.ittup
  | with_reducible apply R.m1
  | with_reducible apply R.m1s
  | with_reducible apply R.leS
  | with_reducible apply R.itstr
  | with_reducible apply R.itstrE
  | with_reducible apply R.lc
  | with_reducible apply R.lc2
  | with_reducible apply R.ckw
  | with_reducible apply R.par
  | with_reducible apply R.parE
  | with_reducible apply R.itrev
  | with_reducible apply R.dsetd
  | with_reducible apply R.dnotin_
  | with_reducible apply R.for_
  | ((with_reducible refine R.all_ (bs := ?bs) ?h ?q); (case h => walk_at "at"))
  | with_reducible apply R.rng1
  | ((with_reducible refine R.rngE ?h ?q); (case h => (constructor <;> omega)))
  | ((with_reducible refine R.lenT (xs := ?xs) ?h ?q); (case h => walk_at "sqt"))
  | ((with_reducible refine R.ixT (xs := ?xs) (v := ?v) ?h ?e ?q); (case h => walk_at "sqt"); (case e => walk_at "ix"))
  | ((refine R.itlE (xs := ?xs) ?h ?q); (case h => walk_at "at"))
  | ((refine R.ittE (xs := ?xs) ?h ?q); (case h => walk_at "at"))
  | ((refine R.gseq (xs := ?xs) ?h ?e ?q); (case h => walk_at "sqa"); (case e => rfl))
  | ((refine R.ixA (xs := ?xs) (v := ?v) ?h ?e ?q); (case h => walk_at "sqa"); (case e => walk_at "ix"))
  | ((refine R.lenA (xs := ?xs) ?h ?q); (case h => walk_at "sqa"))
  | ((with_reducible refine R.gtup (xs := ?xs) ?h ?e ?q); (case h => walk_at "sqt"); (case e => rfl))
  | with_reducible apply R.din_
  | with_reducible apply R.dput_
  | with_reducible apply R.dget2_
  | ((with_reducible refine R.aug_ (x := ?x) ?h ?q); case h => rfl)
  | with_reducible apply R.ipI_
  | with_reducible apply R.rng2
  | ((with_reducible refine R.rngE2 ?h ?q); (case h => (refine ⟨?_, ?_, ?_, ?_⟩ <;> omega)))
  | with_reducible apply R.brk
  | with_reducible apply R.intB
  | with_reducible apply R.meth_
  | ((refine KN.methS (rs := ?rs) (ms := ?ms) ?h (fun _ _ _ _ => rfl) ?q); case h => walk_at "sys")
  | with_reducible apply R.sl_
  | with_reducible apply R.np_
  | with_reducible apply R.pt_
  | with_reducible apply R.ptE
  | with_reducible apply R.dget_
  | with_reducible apply R.revL_
  | ((refine R.dgetS (kvs := ?kvs) (v := ?v) ?h ?e ?q); (case h => walk_at "at"); (case e => walk_at "dk"))
  | with_reducible apply R.sfld
  | with_reducible apply R.fld_
  | with_reducible apply R.dc
  | with_reducible apply R.dget1_
  | with_reducible apply R.itseq
  | with_reducible apply R.itenum
  | with_reducible apply R.itT
  | with_reducible apply R.itF
  | with_reducible apply R.itNT
  | with_reducible apply R.itNF
  | (with_reducible apply R.tup)
  | (with_reducible apply R.lst))
local macro_rules | `(tactic| walk_at "rd") => `(tactic| (repeat (first | walk_at "r1" | (dsimp only [Int.reduceToNat, List.set_cons_succ, List.set_cons_zero, List.length_cons, List.length_nil, List.nil_append, List.cons_append, List.append_nil]))))
local macro_rules | `(tactic| walk_at "go") => `(tactic| (rw [R.start_eq]; dsimp only [R.startE, List.map_nil]; walk_at "rd"))
local macro_rules | `(tactic| walk_at "r1") => `(tactic| first | with_reducible apply R.callN | with_reducible apply R.tr_ | with_reducible apply R.rng3 | with_reducible apply R.bits | with_reducible apply R.dnewT)
-- RTX
namespace R
open PySem L2 SX C8 PySem.Spec PyProof.Rows
section
variable {X : Cx} {tg : Expr}
end
end R
end
section
set_option Elab.async false
set_option linter.all false
set_option maxRecDepth 100000
set_option maxHeartbeats 4000000
set_option pp.maxSteps 1500
set_option pp.deepTerms false
local macro_rules | `(tactic| walk_at "ne") => `(tactic| first
  | assumption | (apply Ne.symm; assumption)
  | exact R.ne_new (by assumption) | exact (R.ne_new (by assumption)).symm
  | exact L2.ne_of_none (by assumption) (by assumption) | exact (L2.ne_of_none (by assumption) (by assumption)).symm
  | exact L2.ne_of_none (by assumption) (R.free_new (by assumption)) | exact (L2.ne_of_none (by assumption) (R.free_new (by assumption))).symm)
local macro_rules | `(tactic| walk_at "at") => `(tactic| first
  | assumption | exact L2.upd_same
  | (refine R.sb (H := ?H) (p := ?p) ?e ?n ?h; (case e => assumption); (case n => walk_at "ne"); (case h => walk_at "at"))
  | (refine R.sm (H := ?H) ?e ?h; (case e => assumption); (case h => walk_at "at"))
  | (refine Eq.trans (L2.upd_ne ?_) ?_ <;> first | walk_at "ne" | walk_at "at"))
local macro_rules | `(tactic| walk_at "sqt") => `(tactic| first | assumption | (refine L2.SqT.of ?_; walk_at "at"))
local macro_rules | `(tactic| walk_at "ty") => `(tactic| first | exact R.tyN | exact R.tyB | exact R.tyI | exact R.tyS | (refine R.tyT (xs := ?xs) ?h; case h => walk_at "at") | (refine R.tyL (xs := ?xs) ?h; case h => walk_at "at"))
local macro_rules | `(tactic| walk_at "kit") => `(tactic| first | exact R.kit_NoneType_tuple | exact R.kit_NoneType_list | exact R.kit_NoneType_bool | exact R.kit_NoneType_str | exact R.kit_NoneType_int | exact R.kit_bool_tuple | exact R.kit_bool_list | exact R.kit_bool_bool | exact R.kit_bool_str | exact R.kit_bool_int | exact R.kit_int_tuple | exact R.kit_int_list | exact R.kit_int_bool | exact R.kit_int_str | exact R.kit_int_int | exact R.kit_str_tuple | exact R.kit_str_list | exact R.kit_str_bool | exact R.kit_str_str | exact R.kit_str_int | exact R.kit_tuple_tuple | exact R.kit_tuple_list | exact R.kit_tuple_bool | exact R.kit_tuple_str | exact R.kit_tuple_int | exact R.kit_list_tuple | exact R.kit_list_list | exact R.kit_list_bool | exact R.kit_list_str | exact R.kit_list_int)
local macro_rules | `(tactic| walk_at "sz") => `(tactic| first | assumption | (refine Nat.le_trans ?_ (show 1000 ≤ PySem.sizeLine by decide); omega) | decide)
local macro_rules | `(tactic| walk_at "szl") => `(tactic| first | assumption | exact Nat.le_of_lt (L2.small1000 (by omega)) | decide | decide +kernel)
local macro_rules | `(tactic| walk_at "sys") => `(tactic| first | assumption | exact KN.SysAt.same (by assumption) (by assumption))
local macro_rules | `(tactic| walk_at "dk") => `(tactic| first | exact R.rowsS _ _ | exact R.rowsM _ _)
local macro_rules | `(tactic| walk_at "sqa") => `(tactic| first | assumption | exact R.SeqA.same (by assumption) (by assumption) | exact R.SeqA.new (by assumption) (by assumption) | (exact Or.inl (by walk_at "at")) | (exact Or.inr (by walk_at "at")))
local macro_rules | `(tactic| walk_at "ix") => `(tactic| first | rfl | (exact L2.atI_nat (by assumption)) | assumption)
local macro_rules | `(tactic| walk_at "cond") => `(tactic| first
  | exact Or.inl (by decide) | exact Or.inr (by decide) | exact Or.inl ⟨by omega, by omega⟩ | exact Or.inr ⟨by omega, by omega⟩
  | (constructor <;> omega) | (show _ ≠ _; omega) | decide | omega)
local macro_rules | `(tactic| walk_at "r1") => `(tactic| first
  | ((with_reducible refine R.var (v := ?v) ?h ?q); case h => rfl)
  | with_reducible apply R.cons
  | with_reducible apply R.c
  | with_reducible apply R.nil
  | with_reducible apply R.op
  | with_reducible apply R.gname
  | with_reducible apply R.seq
  | with_reducible apply R.call
  | with_reducible apply R.asg
  | with_reducible apply R.ex
  | with_reducible apply R.tst
  | with_reducible apply R.i0
  | with_reducible apply R.ifs
  | with_reducible apply R.ret
  | with_reducible apply R.retN
  | with_reducible apply R.drop
  | with_reducible apply R.next
  | with_reducible apply R.tb_
  | with_reducible apply R.eqI
  | with_reducible apply R.neI
  | ((with_reducible refine R.ic ?_ ?_); · walk_at "cond")
  | with_reducible apply R.u0
  | with_reducible apply R.un
  | ((with_reducible refine R.eq ?_ ?_); · rfl)
  | ((with_reducible refine R.ne ?_ ?_); · rfl)
  | with_reducible apply R.and_
  | with_reducible apply R.or_
  | with_reducible apply R.not_
  | with_reducible apply R.ife
  | with_reducible apply R.chain
  | with_reducible apply R.cb
  | with_reducible apply R.bm
  | with_reducible apply R.gsub
  | with_reducible apply R.gnil
  | with_reducible apply R.gcons
  | with_reducible apply R.yes
  | with_reducible apply R.int1
  | ((with_reducible refine R.lenL (xs := ?xs) ?h ?q); case h => walk_at "at")
  | ((with_reducible refine R.ixL (xs := ?xs) (v := ?v) ?h ?e ?q); (case h => walk_at "at"); (case e => walk_at "ix"))
  | ((with_reducible refine R.setL (xs := ?xs) (n := ?n) ?h ?e ?q); (case h => walk_at "at"); (case e => rfl))
  | ((with_reducible refine R.append (xs := ?xs) ?h ?e ?q); (case h => walk_at "at"); (case e => walk_at "cond"))
  | with_reducible apply R.is_
  | with_reducible apply R.isnot
  | with_reducible apply R.andV
  | with_reducible apply R.orV
  | with_reducible apply R.notV
  | ((with_reducible refine R.isi (s := ?s) (b := ?b) ?ty ?h ?q); (case ty => walk_at "ty"); (case h => walk_at "kit"))
  | ((with_reducible refine R.addS ?h ?q); (case h => walk_at "sz"))
  | with_reducible apply R.max2
  | with_reducible apply R.min2
  | ((with_reducible refine R.lenStr ?h ?q); (case h => walk_at "szl"))
  | ((with_reducible refine R.ixS (n := ?n) ?h ?e ?q); (case h => walk_at "szl"); (case e => walk_at "ix"))
  | ((with_reducible refine R.tyl (xs := ?xs) ?h ?q); (case h => walk_at "at"))
  | with_reducible apply R.itlist
  | with_reducible apply R.ittup
  | with_reducible apply R.m1
  | with_reducible apply R.m1s
  | with_reducible apply R.leS
  | with_reducible apply R.itstr
  | with_reducible apply R.itstrE
  | with_reducible apply R.lc
  | with_reducible apply R.lc2
  | with_reducible apply R.ckw
  | with_reducible apply R.par
  | with_reducible apply R.parE
  | with_reducible apply R.itrev
  | with_reducible apply R.dsetd
  | with_reducible apply R.dnotin_
  | with_reducible apply R.for_
  | ((with_reducible refine R.all_ (bs := ?bs) ?h ?q); (case h => walk_at "at"))
  | with_reducible apply R.rng1
  | ((with_reducible refine R.rngE ?h ?q); (case h => (constructor <;> omega)))
  | ((with_reducible refine R.lenT (xs := ?xs) ?h ?q); (case h => walk_at "sqt"))
  | ((with_reducible refine R.ixT (xs := ?xs) (v := ?v) ?h ?e ?q); (case h => walk_at "sqt"); (case e => walk_at "ix"))
  | ((refine R.itlE (xs := ?xs) ?h ?q); (case h => walk_at "at"))
  | ((refine R.ittE (xs := ?xs) ?h ?q); (case h => walk_at "at"))
  | ((refine R.gseq (xs := ?xs) ?h ?e ?q); (case h => walk_at "sqa"); (case e => rfl))
  | ((refine R.ixA (xs := ?xs) (v := ?v) ?h ?e ?q); (case h => walk_at "sqa"); (case e => walk_at "ix"))
  | ((refine R.lenA (xs := ?xs) ?h ?q); (case h => walk_at "sqa"))
  | ((with_reducible refine R.gtup (xs := ?xs) ?h ?e ?q); (case h => walk_at "sqt"); (case e => rfl))
  | with_reducible apply R.din_
  | with_reducible apply R.dput_
  | with_reducible apply R.dget2_
  | ((with_reducible refine R.aug_ (x := ?x) ?h ?q); case h => rfl)
  | with_reducible apply R.ipI_
  | with_reducible apply R.rng2
  | ((with_reducible refine R.rngE2 ?h ?q); (case h => (refine ⟨?_, ?_, ?_, ?_⟩ <;> omega)))
  | with_reducible apply R.brk
  | with_reducible apply R.intB
  | with_reducible apply R.meth_
  | ((refine KN.methS (rs := ?rs) (ms := ?ms) ?h (fun _ _ _ _ => rfl) ?q); case h => walk_at "sys")
  | with_reducible apply R.sl_
  | with_reducible apply R.np_
  | with_reducible apply R.pt_
  | with_reducible apply R.ptE
  | with_reducible apply R.dget_
  | with_reducible apply R.revL_
  | ((refine R.dgetS (kvs := ?kvs) (v := ?v) ?h ?e ?q); (case h => walk_at "at"); (case e => walk_at "dk"))
  | with_reducible apply R.sfld
  | with_reducible apply R.fld_
  | with_reducible apply R.dc
  | with_reducible apply R.dget1_
  | with_reducible apply R.itseq
  | with_reducible apply R.itenum
  | with_reducible apply R.itT
  | with_reducible apply R.itF
  | with_reducible apply R.itNT
  | with_reducible apply R.itNF
  | (with_reducible apply R.tup)
  | (with_reducible apply R.lst))
local macro_rules | `(tactic| walk_at "rd") => `(tactic| (repeat (first | walk_at "r1" | (dsimp only [Int.reduceToNat, List.set_cons_succ, List.set_cons_zero, List.length_cons, List.length_nil, List.nil_append, List.cons_append, List.append_nil]))))
local macro_rules | `(tactic| walk_at "go") => `(tactic| (rw [R.start_eq]; dsimp only [R.startE, List.map_nil]; walk_at "rd"))
local macro_rules | `(tactic| walk_at "r1") => `(tactic| first | with_reducible apply R.callN | with_reducible apply R.tr_ | with_reducible apply R.rng3 | with_reducible apply R.bits | with_reducible apply R.dnewT)
-- RTX
namespace KN
open PySem L2 SX R
open C8 (Cal Def cal0 pe_c pe_gc fnScope fnBody pss_cut Met pe_mt pe_mt0)
section
variable {P : Program} {w : World} {K : PySem.W.Frag} {mg : Str → Option Value} {base : Heap}
abbrev sLctd : Stmt := top 45
theorem scLctd : FnScope ["pool", "row", "is_even", "has_endless", "word", "value", "count", "is_unsaid", "last", "kind"] ["pool", "row", "is_even", "has_endless"] (fnScope sLctd) := ⟨rfl, rfl, rfl, by decide +kernel, rfl, by decide +kernel, by decide +kernel⟩
theorem inoY {C A B : Prop} [Decidable C] (h : C) (q : B) : if (!decide C) = true then A else B := by rw [decide_eq_true h]; exact q
theorem inoN {C A B : Prop} [Decidable C] (h : ¬ C) (q : A) : if (!decide C) = true then A else B := by rw [decide_eq_false h]; exact q
def Bnd (m : MR) : Prop := GoodM m ∧ m.v ≤ 1001 ∧ ∀ c, m.c = some c → c ≤ 99
def spLctd : Sp := fun vs H Q _ => ∃ (p l rb : Addr) (m : MR) (ev he : Bool), vs = [.ref p, .ref rb, .bl ev, .bl he] ∧ PoolAt H p l ∧ H rb = some (.tup (mrV m)) ∧ GoodM m ∧ m.v ≤ 1000 ∧ (∀ c, m.c = some c → c ≤ 99) ∧
  ∀ H' t m', SameBut p H H' → PoolAt H' p l → H' t = some (.tup (mrV m')) → m'.w = m.w → Bnd m' → (he = true → m'.c.isNone = false) → (ev = true → m'.v = m.v) → Q (.ref t) H'
theorem c_lctd (Z : Zs mg) (c_take : Cal P w K mg base 2 "_law_take" spTake []) {f : Addr} {fd : FuncData} (F : Def K mg "_law_counted" sLctd f fd) (b : Binds K fd ["pool", "row", "is_even", "has_endless"] []) : Cal P w K mg base 3 "_law_counted" spLctd [] := by
  refine cal0 F b .nil scLctd (fun vs H Q E h => ?_) (fun cdv A outer s H vs Q E hr h => ?_)
  · obtain ⟨p, l, rb, m, ev, he, rfl, _⟩ := h
    rfl
  · obtain ⟨p, l, rb, m, ev, he, rfl, hP, hrb, gm, v9, c9, k⟩ := h
    refine ⟨_, pss_cons (ps_asg (pv 1) (kgTup K (n := 5) rfl (pgs_cons (pg_name (i := 4) scLctd.nd rfl (Or.inl rfl)) (pgs_cons (pg_name (i := 5) scLctd.nd rfl (Or.inl rfl)) (pgs_cons (pg_name (i := 6) scLctd.nd rfl (Or.inl rfl)) (pgs_cons (pg_name (i := 7) scLctd.nd rfl (Or.inl rfl)) (pgs_cons (pg_name (i := 8) scLctd.nd rfl (Or.inl rfl)) pgs_nil)))))))
      (pss_cons (ps_set (i := 9) scLctd.nd rfl (Or.inl rfl) (pe_c c_take hr (by omega) (by rfl) (pa_cons (pv 0) (pa_cons pe_int pa_nil))))
      (pss_cut (ps_if (PW.pt (pw_or (pt_cmpR op_eq (pv 9) pe_int (nomark _)) (pw_or1 (PW.pt (pw_and (pt_cmpR oIs (pv 6) pe_non (nomark _)) (pw_and1 (pt_val (pv 3))))))))
        (pss_one (ps_set (i := 6) scLctd.nd rfl (Or.inl rfl) (pe_op op_add pe_int (pe_c c_take hr (by omega) (by rfl) (pa_cons (pv 0) (pa_cons (pe_ix (kIxT K) (pe_tup (pa_cons pe_int (pa_cons pe_int pa_nil))) (pe_c c_take hr (by omega) (by rfl) (pa_cons (pv 0) (pa_cons pe_int pa_nil))) (fun _ _ => rfl)) pa_nil))))))
        (pss_one (ps_if (PW.pt (pw_and (pt_cmpR op_eq (pv 9) pe_int (nomark _)) (pw_and1 (pt_not (pt_val (pv 3))))))
        (pss_one (ps_set (i := 6) scLctd.nd rfl (Or.inl rfl) pe_non))
        (pss_nil))))
      (pss_cut (ps_if (pt_cmpR oIsNot (pv 6) pe_non (nomark _))
        (pss_one (ps_set (i := 6) scLctd.nd rfl (Or.inl rfl) (pe_callB kMin2 (by rfl) Z.min (by decide +kernel) (pa_cons (pv 6) (pa_cons (pe_op op_fdivN pe_int (pv 5)) pa_nil)))))
        (pss_nil))
      (pss_cut (ps_if (pt_cmpR op_eq (pe_c c_take hr (by omega) (by rfl) (pa_cons (pv 0) (pa_cons pe_int pa_nil))) pe_int (nomark _))
        (pss_one (ps_set (i := 7) scLctd.nd rfl (Or.inl rfl) (pe_not (pv 7))))
        (pss_nil))
      (pss_cons (ps_set (i := 8) scLctd.nd rfl (Or.inl rfl) (pe_ix (kIxT K) (pe_tup (pa_cons (pv 8) (pa_cons (pv 8) (pa_cons (pe_op op_sub (pv 5) pe_int) (pa_cons (pe_c c_take hr (by omega) (by rfl) (pa_cons (pv 0) (pa_cons (pv 5) pa_nil))) pa_nil))))) (pe_c c_take hr (by omega) (by rfl) (pa_cons (pv 0) (pa_cons pe_int pa_nil))) (fun _ _ => rfl)))
      (pss_cut (ps_if (PW.pt (pw_and (pt_not (pt_val (pv 2))) (pw_and1 (pt_cmpR op_eq (pe_c c_take hr (by omega) (by rfl) (pa_cons (pv 0) (pa_cons pe_int pa_nil))) pe_int (nomark _)))))
        (pss_one (ps_set (i := 5) scLctd.nd rfl (Or.inl rfl) (pe_op op_add (pv 5) pe_int)))
        (pss_nil))
      (pss_one (ps_ret (pe_tup (pa_cons (pv 4) (pa_cons (pv 5) (pa_cons (pv 6) (pa_cons (pv 7) (pa_cons (pv 8) pa_nil)))))))))))))), ?_⟩
    obtain ⟨mw, mv, mc, mu, mr⟩ := m
    dsimp only at v9 c9
    have lo := gm.lo
    have r0 := gm.r0
    have r1 := gm.r1
    have gc := gm.c
    have gw := gm.w
    dsimp only at lo r0 r1 gc gw
    replace hrb : H rb = some (.tup [.str mw, .int mv, ocnt mc, .bl mu, .int mr]) := hrb
    walk_at "go"
    refine r_take' hP (by decide) (by decide) (fun H1 kd e1 P1 l1 u1 => ?_)
    walk_at "rd"
    refine R.cut (fun σ' H' => ∃ c1 : Option Int, σ' = [some (.ref p), some (.ref rb), some (.bl ev), some (.bl he), some (.str mw), some (.int mv), some (ocnt c1), some (.bl mu), some (.int mr), some (.int kd)] ∧ SameBut p H H' ∧ PoolAt H' p l ∧ (∀ c, c1 = some c → 1 ≤ c ∧ c ≤ 99) ∧ (he = true → c1.isNone = false)) ?_ ?_
    · have A : ∀ (H2 : Hp), SameBut p H H2 → PoolAt H2 p l → ∀ d : Int, 0 ≤ d → d < 60 → ∃ c1 : Option Int, ([some (.ref p), some (.ref rb), some (.bl ev), some (.bl he), some (.str mw), some (.int mv), some (.int (1 + d)), some (.bl mu), some (.int mr), some (.int kd)] : L2.St) = [some (.ref p), some (.ref rb), some (.bl ev), some (.bl he), some (.str mw), some (.int mv), some (ocnt c1), some (.bl mu), some (.int mr), some (.int kd)] ∧ SameBut p H H2 ∧ PoolAt H2 p l ∧ (∀ c, c1 = some c → 1 ≤ c ∧ c ≤ 99) ∧ (he = true → c1.isNone = false) := fun H2 e P d d0 d1 => ⟨some (1 + d), rfl, e, P, fun c hc => by cases hc; omega, fun _ => rfl⟩
      walk_at "rd"
      refine it (fun h0 => ?_) (fun h0 => ?_)
      · walk_at "rd"
        refine ⟨by decide, fun t1 ht1 => R.gen ht1 fun H2 s2 h2 => ?_⟩
        have P2 := P1.same s2
        have t1p := (P1.nep ht1).1
        walk_at "rd"
        refine r_take' P2 (by decide) (by decide) (fun H3 d3 e3 P3 l3 u3 => ?_)
        have h3 := e3 _ _ t1p h2
        obtain ⟨v, hv1, ev'⟩ := atI_in (xs := [V.int 4, .int 60]) l3 u3
        obtain ⟨sz, rfl, z0, z1⟩ : ∃ x1 : Int, v = .int x1 ∧ 4 ≤ x1 ∧ x1 ≤ 60 := by
          simp only [List.mem_cons, List.not_mem_nil, or_false] at hv1
          rcases hv1 with rfl | rfl <;> exact ⟨_, rfl, by decide, by decide⟩
        walk_at "rd"
        refine r_take' P3 (by omega) (by omega) (fun H4 d4 e4 P4 l4 u4 => ?_)
        walk_at "rd"
        exact A H4 (((e1.trans (SameBut.of s2)).trans e3).trans e4) P4 d4 l4 (by omega)
      · walk_at "rd"
        cases mc with
        | none =>
          refine itY rfl ?_
          cases he with
          | true =>
            walk_at "rd"
            refine ⟨by decide, fun t1 ht1 => R.gen ht1 fun H2 s2 h2 => ?_⟩
            have P2 := P1.same s2
            have t1p := (P1.nep ht1).1
            walk_at "rd"
            refine r_take' P2 (by decide) (by decide) (fun H3 d3 e3 P3 l3 u3 => ?_)
            have h3 := e3 _ _ t1p h2
            obtain ⟨v, hv1, ev'⟩ := atI_in (xs := [V.int 4, .int 60]) l3 u3
            obtain ⟨sz, rfl, z0, z1⟩ : ∃ x1 : Int, v = .int x1 ∧ 4 ≤ x1 ∧ x1 ≤ 60 := by
              simp only [List.mem_cons, List.not_mem_nil, or_false] at hv1
              rcases hv1 with rfl | rfl <;> exact ⟨_, rfl, by decide, by decide⟩
            walk_at "rd"
            refine r_take' P3 (by omega) (by omega) (fun H4 d4 e4 P4 l4 u4 => ?_)
            walk_at "rd"
            exact A H4 (((e1.trans (SameBut.of s2)).trans e3).trans e4) P4 d4 l4 (by omega)
          | false =>
            walk_at "rd"
            refine it (fun h6 => ?_) (fun h6 => ?_)
            · walk_at "rd"
              exact ⟨none, rfl, e1, P1, (fun c h => nomatch h), fun h => nomatch h⟩
            · walk_at "rd"
              exact ⟨none, rfl, e1, P1, (fun c h => nomatch h), fun h => nomatch h⟩
        | some c =>
          refine itN (fun q => nomatch (show V.int c = V.non from q)) ?_
          have gcc := gc c rfl
          have c99 := c9 c rfl
          walk_at "rd"
          refine it (fun h6 => ?_) (fun h6 => ?_)
          · cases he with
            | true =>
              walk_at "rd"
              exact ⟨some c, rfl, e1, P1, (fun c' h => by cases h; omega), fun h => rfl⟩
            | false =>
              walk_at "rd"
              exact ⟨none, rfl, e1, P1, (fun c h => nomatch h), fun h => nomatch h⟩
          · walk_at "rd"
            exact ⟨some c, rfl, e1, P1, (fun c' h => by cases h; omega), fun h => rfl⟩
    · rintro σ1 H2 ⟨c1, rfl, e2, P2, hc1, hn1⟩
      refine R.cut (fun σ' H' => ∃ c2 : Option Int, σ' = [some (.ref p), some (.ref rb), some (.bl ev), some (.bl he), some (.str mw), some (.int mv), some (ocnt c2), some (.bl mu), some (.int mr), some (.int kd)] ∧ H' = H2 ∧ (∀ c, c2 = some c → 1 ≤ c ∧ c ≤ 99 ∧ c * mv ≤ 90000) ∧ (he = true → c2.isNone = false)) ?_ ?_
      · walk_at "rd"
        cases c1 with
        | none =>
          refine inoY rfl ?_
          walk_at "rd"
          exact ⟨none, rfl, rfl, (fun c h => nomatch h), hn1⟩
        | some c =>
          refine inoN (fun q => nomatch (show V.int c = V.non from q)) ?_
          obtain ⟨a1, a2⟩ := hc1 c rfl
          rw [show ocnt (some c) = V.int c from rfl]
          walk_at "rd"
          refine ⟨some (if (90000 : Int).fdiv mv < c then (90000 : Int).fdiv mv else c), rfl, rfl, fun c' h => ?_, fun _ => rfl⟩
          cases h
          rw [Int.fdiv_eq_ediv_of_nonneg _ (by omega)]
          have e := Int.mul_ediv_add_emod 90000 mv
          have m0 := Int.emod_nonneg 90000 (show mv ≠ 0 by omega)
          have d1 : 90 ≤ 90000 / mv := (Int.le_ediv_iff_mul_le (by omega)).mpr (by omega)
          have q1 : 90000 / mv * mv ≤ 90000 := by rw [Int.mul_comm]; omega
          split
          · exact ⟨by omega, by omega, q1⟩
          · refine ⟨a1, a2, Int.le_trans (Int.mul_le_mul_of_nonneg_right (show c ≤ 90000 / mv by omega) (by omega)) q1⟩
      · rintro σ2 H3 ⟨c2, rfl, rfl, hc2, hn2⟩
        refine R.cut (fun σ' H' => ∃ u2 : Bool, σ' = [some (.ref p), some (.ref rb), some (.bl ev), some (.bl he), some (.str mw), some (.int mv), some (ocnt c2), some (.bl u2), some (.int mr), some (.int kd)] ∧ SameBut p H H' ∧ PoolAt H' p l) ?_ ?_
        · walk_at "rd"
          refine r_take' P2 (by decide) (by decide) (fun H4 d4 e4 P4 l4 u4 => ?_)
          walk_at "rd"
          refine it (fun h6 => ?_) (fun h6 => ?_)
          · walk_at "rd"
            exact ⟨!mu, rfl, e2.trans e4, P4⟩
          · walk_at "rd"
            exact ⟨mu, rfl, e2.trans e4, P4⟩
        · rintro σ3 H4 ⟨u2, rfl, e4, P4⟩
          walk_at "rd"
          refine r_take' P4 (by omega) (by omega) (fun H5 d5 e5 P5 l5 u5 => ?_)
          walk_at "rd"
          refine ⟨by decide, fun t1 ht1 => R.gen ht1 fun H6 s6 h6 => ?_⟩
          have P6 := P5.same s6
          have t1p := (P5.nep ht1).1
          walk_at "rd"
          refine r_take' P6 (by decide) (by decide) (fun H7 d7 e7 P7 l7 u7 => ?_)
          have h7 := e7 _ _ t1p h6
          obtain ⟨v, hv1, ev'⟩ := atI_in (xs := [V.int mr, .int mr, .int (mv - 1), .int d5]) l7 u7
          obtain ⟨r', rfl, z0, z1⟩ : ∃ x1 : Int, v = .int x1 ∧ 0 ≤ x1 ∧ x1 < mv := by
            simp only [List.mem_cons, List.not_mem_nil, or_false] at hv1
            rcases hv1 with rfl | rfl | rfl | rfl <;> exact ⟨_, rfl, by omega, by omega⟩
          walk_at "rd"
          have e07 := ((e4.trans e5).trans (SameBut.of s6)).trans e7
          refine R.cut (fun σ' H' => ∃ v2 : Int, σ' = [some (.ref p), some (.ref rb), some (.bl ev), some (.bl he), some (.str mw), some (.int v2), some (ocnt c2), some (.bl u2), some (.int r'), some (.int kd)] ∧ SameBut p H H' ∧ PoolAt H' p l ∧ mv ≤ v2 ∧ v2 ≤ mv + 1 ∧ (ev = true → v2 = mv)) ?_ ?_
          · walk_at "rd"
            cases ev with
            | true =>
              walk_at "rd"
              exact ⟨mv, rfl, e07, P7, Int.le_refl _, by omega, fun _ => rfl⟩
            | false =>
              walk_at "rd"
              refine r_take' P7 (by decide) (by decide) (fun H8 d8 e8 P8 l8 u8 => ?_)
              walk_at "rd"
              refine it (fun h9 => ?_) (fun h9 => ?_)
              · walk_at "rd"
                exact ⟨mv + 1, rfl, e07.trans e8, P8, by omega, by omega, fun h => nomatch h⟩
              · walk_at "rd"
                exact ⟨mv, rfl, e07.trans e8, P8, by omega, by omega, fun h => nomatch h⟩
          · rintro σ4 H8 ⟨v2, rfl, e8, P8, a1, a2, a3⟩
            walk_at "rd"
            refine ⟨by decide, fun t ht => k _ t ⟨mw, v2, c2, u2, r'⟩ (e8.trans (SameBut.of (same_new (Same.refl _) ht))) (P8.new ht) upd_same rfl ⟨⟨gw, by show 2 ≤ v2; omega, by show v2 ≤ 100000; omega, fun c hc => ?_, z0, by show r' < v2; omega⟩, by show v2 ≤ 1001; omega, fun c hc => (hc2 c hc).2.1⟩ hn2 a3⟩
            obtain ⟨q1, q2, q3⟩ := hc2 c hc
            refine ⟨q1, by omega, ?_⟩
            show c * v2 + r' ≤ 100000
            have : c * v2 ≤ c * mv + c := by
              have := Int.mul_le_mul_of_nonneg_left a2 (show 0 ≤ c by omega)
              rw [Int.mul_add] at this
              omega
            omega
end
end KN
end
section
set_option Elab.async false
set_option linter.all false
set_option maxRecDepth 100000
set_option maxHeartbeats 4000000
set_option pp.maxSteps 1500
set_option pp.deepTerms false
local macro_rules | `(tactic| walk_at "ne") => `(tactic| first
  | assumption | (apply Ne.symm; assumption)
  | exact R.ne_new (by assumption) | exact (R.ne_new (by assumption)).symm
  | exact L2.ne_of_none (by assumption) (by assumption) | exact (L2.ne_of_none (by assumption) (by assumption)).symm
  | exact L2.ne_of_none (by assumption) (R.free_new (by assumption)) | exact (L2.ne_of_none (by assumption) (R.free_new (by assumption))).symm)
local macro_rules | `(tactic| walk_at "at") => `(tactic| first
  | assumption | exact L2.upd_same
  | (refine R.sb (H := ?H) (p := ?p) ?e ?n ?h; (case e => assumption); (case n => walk_at "ne"); (case h => walk_at "at"))
  | (refine R.sm (H := ?H) ?e ?h; (case e => assumption); (case h => walk_at "at"))
  | (refine Eq.trans (L2.upd_ne ?_) ?_ <;> first | walk_at "ne" | walk_at "at"))
local macro_rules | `(tactic| walk_at "sqt") => `(tactic| first | assumption | (refine L2.SqT.of ?_; walk_at "at"))
local macro_rules | `(tactic| walk_at "ty") => `(tactic| first | exact R.tyN | exact R.tyB | exact R.tyI | exact R.tyS | (refine R.tyT (xs := ?xs) ?h; case h => walk_at "at") | (refine R.tyL (xs := ?xs) ?h; case h => walk_at "at"))
local macro_rules | `(tactic| walk_at "kit") => `(tactic| first | exact R.kit_NoneType_tuple | exact R.kit_NoneType_list | exact R.kit_NoneType_bool | exact R.kit_NoneType_str | exact R.kit_NoneType_int | exact R.kit_bool_tuple | exact R.kit_bool_list | exact R.kit_bool_bool | exact R.kit_bool_str | exact R.kit_bool_int | exact R.kit_int_tuple | exact R.kit_int_list | exact R.kit_int_bool | exact R.kit_int_str | exact R.kit_int_int | exact R.kit_str_tuple | exact R.kit_str_list | exact R.kit_str_bool | exact R.kit_str_str | exact R.kit_str_int | exact R.kit_tuple_tuple | exact R.kit_tuple_list | exact R.kit_tuple_bool | exact R.kit_tuple_str | exact R.kit_tuple_int | exact R.kit_list_tuple | exact R.kit_list_list | exact R.kit_list_bool | exact R.kit_list_str | exact R.kit_list_int)
local macro_rules | `(tactic| walk_at "sz") => `(tactic| first | assumption | (refine Nat.le_trans ?_ (show 1000 ≤ PySem.sizeLine by decide); omega) | decide)
local macro_rules | `(tactic| walk_at "szl") => `(tactic| first | assumption | exact Nat.le_of_lt (L2.small1000 (by omega)) | decide | decide +kernel)
local macro_rules | `(tactic| walk_at "sys") => `(tactic| first | assumption | exact KN.SysAt.same (by assumption) (by assumption))
local macro_rules | `(tactic| walk_at "dk") => `(tactic| first | exact R.rowsS _ _ | exact R.rowsM _ _)
local macro_rules | `(tactic| walk_at "sqa") => `(tactic| first | assumption | exact R.SeqA.same (by assumption) (by assumption) | exact R.SeqA.new (by assumption) (by assumption) | (exact Or.inl (by walk_at "at")) | (exact Or.inr (by walk_at "at")))
local macro_rules | `(tactic| walk_at "ix") => `(tactic| first | rfl | (exact L2.atI_nat (by assumption)) | assumption)
local macro_rules | `(tactic| walk_at "cond") => `(tactic| first
  | exact Or.inl (by decide) | exact Or.inr (by decide) | exact Or.inl ⟨by omega, by omega⟩ | exact Or.inr ⟨by omega, by omega⟩
  | (constructor <;> omega) | (show _ ≠ _; omega) | decide | omega)
local macro_rules | `(tactic| walk_at "r1") => `(tactic| first
  | ((with_reducible refine R.var (v := ?v) ?h ?q); case h => rfl)
  | with_reducible apply R.cons
  | with_reducible apply R.c
  | with_reducible apply R.nil
  | with_reducible apply R.op
  | with_reducible apply R.gname
  | with_reducible apply R.seq
  | with_reducible apply R.call
  | with_reducible apply R.asg
  | with_reducible apply R.ex
  | with_reducible apply R.tst
  | with_reducible apply R.i0
  | with_reducible apply R.ifs
  | with_reducible apply R.ret
  | with_reducible apply R.retN
  | with_reducible apply R.drop
  | with_reducible apply R.next
  | with_reducible apply R.tb_
  | with_reducible apply R.eqI
  | with_reducible apply R.neI
  | ((with_reducible refine R.ic ?_ ?_); · walk_at "cond")
  | with_reducible apply R.u0
  | with_reducible apply R.un
  | ((with_reducible refine R.eq ?_ ?_); · rfl)
  | ((with_reducible refine R.ne ?_ ?_); · rfl)
  | with_reducible apply R.and_
  | with_reducible apply R.or_
  | with_reducible apply R.not_
  | with_reducible apply R.ife
  | with_reducible apply R.chain
  | with_reducible apply R.cb
  | with_reducible apply R.bm
  | with_reducible apply R.gsub
  | with_reducible apply R.gnil
  | with_reducible apply R.gcons
  | with_reducible apply R.yes
  | with_reducible apply R.int1
  | ((with_reducible refine R.lenL (xs := ?xs) ?h ?q); case h => walk_at "at")
  | ((with_reducible refine R.ixL (xs := ?xs) (v := ?v) ?h ?e ?q); (case h => walk_at "at"); (case e => walk_at "ix"))
  | ((with_reducible refine R.setL (xs := ?xs) (n := ?n) ?h ?e ?q); (case h => walk_at "at"); (case e => rfl))
  | ((with_reducible refine R.append (xs := ?xs) ?h ?e ?q); (case h => walk_at "at"); (case e => walk_at "cond"))
  | with_reducible apply R.is_
  | with_reducible apply R.isnot
  | with_reducible apply R.andV
  | with_reducible apply R.orV
  | with_reducible apply R.notV
  | ((with_reducible refine R.isi (s := ?s) (b := ?b) ?ty ?h ?q); (case ty => walk_at "ty"); (case h => walk_at "kit"))
  | ((with_reducible refine R.addS ?h ?q); (case h => walk_at "sz"))
  | with_reducible apply R.max2
  | with_reducible apply R.min2
  | ((with_reducible refine R.lenStr ?h ?q); (case h => walk_at "szl"))
  | ((with_reducible refine R.ixS (n := ?n) ?h ?e ?q); (case h => walk_at "szl"); (case e => walk_at "ix"))
  | ((with_reducible refine R.tyl (xs := ?xs) ?h ?q); (case h => walk_at "at"))
  | with_reducible apply R.itlist
  | with_reducible apply R.ittup
  | with_reducible apply R.m1
  | with_reducible apply R.m1s
  | with_reducible apply R.leS
  | with_reducible apply R.itstr
  | with_reducible apply R.itstrE
  | with_reducible apply R.lc
  | with_reducible apply R.lc2
  | with_reducible apply R.ckw
  | with_reducible apply R.par
  | with_reducible apply R.parE
  | with_reducible apply R.itrev
  | with_reducible apply R.dsetd
  | with_reducible apply R.dnotin_
  | with_reducible apply R.for_
  | ((with_reducible refine R.all_ (bs := ?bs) ?h ?q); (case h => walk_at "at"))
  | with_reducible apply R.rng1
  | ((with_reducible refine R.rngE ?h ?q); (case h => (constructor <;> omega)))
  | ((with_reducible refine R.lenT (xs := ?xs) ?h ?q); (case h => walk_at "sqt"))
  | ((with_reducible refine R.ixT (xs := ?xs) (v := ?v) ?h ?e ?q); (case h => walk_at "sqt"); (case e => walk_at "ix"))
  | ((refine R.itlE (xs := ?xs) ?h ?q); (case h => walk_at "at"))
  | ((refine R.ittE (xs := ?xs) ?h ?q); (case h => walk_at "at"))
  | ((refine R.gseq (xs := ?xs) ?h ?e ?q); (case h => walk_at "sqa"); (case e => rfl))
  | ((refine R.ixA (xs := ?xs) (v := ?v) ?h ?e ?q); (case h => walk_at "sqa"); (case e => walk_at "ix"))
  | ((refine R.lenA (xs := ?xs) ?h ?q); (case h => walk_at "sqa"))
  | ((with_reducible refine R.gtup (xs := ?xs) ?h ?e ?q); (case h => walk_at "sqt"); (case e => rfl))
  | with_reducible apply R.din_
  | with_reducible apply R.dput_
  | with_reducible apply R.dget2_
  | ((with_reducible refine R.aug_ (x := ?x) ?h ?q); case h => rfl)
  | with_reducible apply R.ipI_
  | with_reducible apply R.rng2
  | ((with_reducible refine R.rngE2 ?h ?q); (case h => (refine ⟨?_, ?_, ?_, ?_⟩ <;> omega)))
  | with_reducible apply R.brk
  | with_reducible apply R.intB
  | with_reducible apply R.meth_
  | ((refine KN.methS (rs := ?rs) (ms := ?ms) ?h (fun _ _ _ _ => rfl) ?q); case h => walk_at "sys")
  | with_reducible apply R.sl_
  | with_reducible apply R.np_
  | with_reducible apply R.pt_
  | with_reducible apply R.ptE
  | with_reducible apply R.dget_
  | with_reducible apply R.revL_
  | ((refine R.dgetS (kvs := ?kvs) (v := ?v) ?h ?e ?q); (case h => walk_at "at"); (case e => walk_at "dk"))
  | with_reducible apply R.sfld
  | with_reducible apply R.fld_
  | with_reducible apply R.dc
  | with_reducible apply R.dget1_
  | with_reducible apply R.itseq
  | with_reducible apply R.itenum
  | with_reducible apply R.itT
  | with_reducible apply R.itF
  | with_reducible apply R.itNT
  | with_reducible apply R.itNF
  | (with_reducible apply R.tup)
  | (with_reducible apply R.lst))
local macro_rules | `(tactic| walk_at "rd") => `(tactic| (repeat (first | walk_at "r1" | (dsimp only [Int.reduceToNat, List.set_cons_succ, List.set_cons_zero, List.length_cons, List.length_nil, List.nil_append, List.cons_append, List.append_nil]))))
local macro_rules | `(tactic| walk_at "go") => `(tactic| (rw [R.start_eq]; dsimp only [R.startE, List.map_nil]; walk_at "rd"))
namespace KN
open PySem L2 SX R
/-! a second system out of the words of a first one -/
def wsOf (rs : List SR) (ms : List MR) : List Str := rs.map (·.w) ++ ms.map (·.w)
structure VarI (ev : Bool) (rs0 : List SR) (ms0 : List MR) (S : List Str) (rs : List SR) (ms : List MR) : Prop where
  gs : ∀ r ∈ rs, GoodS r
  gm : ∀ m ∈ ms, Bnd m
  nd : (wsOf rs ms).Nodup
  sub : ∀ z ∈ wsOf rs ms, z ∈ S
  one : (ms.filter fun r => r.c.isNone).length ≤ 1
  eS : ev = true → ∀ b ∈ rs, ∀ a ∈ rs0, a.w = b.w → a.v = b.v
  eM : ev = true → ∀ b ∈ ms, ∀ a ∈ ms0, a.w = b.w → a.v = b.v
  xS : ev = true → ∀ b ∈ rs, ∀ a ∈ ms0, a.w ≠ b.w
  xM : ev = true → ∀ b ∈ ms, ∀ a ∈ rs0, a.w ≠ b.w
section
variable {ev : Bool} {rs0 rs rs' : List SR} {ms0 ms ms' : List MR} {S S' : List Str}
theorem VarI.perm (h : VarI ev rs0 ms0 S rs ms) (p : rs'.Perm rs) (q : ms'.Perm ms) : VarI ev rs0 ms0 S rs' ms' := by
  have pw : (wsOf rs' ms').Perm (wsOf rs ms) := List.Perm.append (p.map _) (q.map _)
  exact ⟨fun r hr => h.gs r (p.mem_iff.mp hr), fun r hr => h.gm r (q.mem_iff.mp hr), pw.nodup_iff.mpr h.nd, fun z hz => h.sub z (pw.mem_iff.mp hz), by rw [(q.filter _).length_eq]; exact h.one,
    fun e b hb => h.eS e b (p.mem_iff.mp hb), fun e b hb => h.eM e b (q.mem_iff.mp hb), fun e b hb => h.xS e b (p.mem_iff.mp hb), fun e b hb => h.xM e b (q.mem_iff.mp hb)⟩
theorem VarI.wide (h : VarI ev rs0 ms0 S rs ms) (k : ∀ z ∈ S, z ∈ S') : VarI ev rs0 ms0 S' rs ms := ⟨h.gs, h.gm, h.nd, fun z hz => k z (h.sub z hz), h.one, h.eS, h.eM, h.xS, h.xM⟩
theorem VarI.nil : VarI ev rs0 ms0 S [] [] := ⟨(fun r h => nomatch h), (fun r h => nomatch h), List.nodup_nil, (fun z h => nomatch h), Nat.zero_le _, (fun _ b h => nomatch h), (fun _ b h => nomatch h), (fun _ b h => nomatch h), (fun _ b h => nomatch h)⟩
theorem VarI.consS (h : VarI ev rs0 ms0 S rs ms) (r : SR) (g : GoodS r) (n : r.w ∉ S) (e1 : ev = true → ∀ a ∈ rs0, a.w = r.w → a.v = r.v) (e2 : ev = true → ∀ a ∈ ms0, a.w ≠ r.w) : VarI ev rs0 ms0 (r.w :: S) (r :: rs) ms := by
  refine ⟨fun x hx => ?_, h.gm, ?_, fun z hz => ?_, h.one, fun e b hb => ?_, h.eM, fun e b hb => ?_, h.xM⟩
  · rcases List.mem_cons.mp hx with rfl | hx
    · exact g
    · exact h.gs x hx
  · exact List.nodup_cons.mpr ⟨fun z => n (h.sub _ z), h.nd⟩
  · rcases List.mem_cons.mp hz with rfl | hz
    · exact List.mem_cons_self
    · exact List.mem_cons_of_mem _ (h.sub z hz)
  · rcases List.mem_cons.mp hb with rfl | hb
    · exact e1 e
    · exact h.eS e b hb
  · rcases List.mem_cons.mp hb with rfl | hb
    · exact e2 e
    · exact h.xS e b hb
theorem VarI.consM (h : VarI ev rs0 ms0 S rs ms) (m : MR) (g : Bnd m) (n : m.w ∉ S) (o : m.c.isNone = true → ∀ q ∈ ms, q.c.isNone = false) (e1 : ev = true → ∀ a ∈ ms0, a.w = m.w → a.v = m.v) (e2 : ev = true → ∀ a ∈ rs0, a.w ≠ m.w) : VarI ev rs0 ms0 (m.w :: S) rs (m :: ms) := by
  have pm : (wsOf rs (m :: ms)).Perm (m.w :: wsOf rs ms) := by
    unfold wsOf
    rw [List.map_cons]
    exact List.perm_middle
  refine ⟨h.gs, fun x hx => ?_, ?_, fun z hz => ?_, ?_, h.eS, fun e b hb => ?_, h.xS, fun e b hb => ?_⟩
  · rcases List.mem_cons.mp hx with rfl | hx
    · exact g
    · exact h.gm x hx
  · rw [pm.nodup_iff]
    exact List.nodup_cons.mpr ⟨fun z => n (h.sub _ z), h.nd⟩
  · rcases List.mem_cons.mp (pm.mem_iff.mp hz) with rfl | hz
    · exact List.mem_cons_self
    · exact List.mem_cons_of_mem _ (h.sub z hz)
  · by_cases z : m.c.isNone = true
    · rw [List.filter_cons_of_pos (by exact z), List.filter_eq_nil_iff.mpr (fun q hq => by rw [o z q hq]; exact Bool.false_ne_true)]
      exact Nat.le_refl _
    · rw [List.filter_cons_of_neg (by exact z)]
      exact h.one
  · rcases List.mem_cons.mp hb with rfl | hb
    · exact e1 e
    · exact h.eM e b hb
  · rcases List.mem_cons.mp hb with rfl | hb
    · exact e2 e
    · exact h.xM e b hb
theorem perm_snoc {α : Type} (l : List α) (a : α) : (l ++ [a]).Perm (a :: l) := List.perm_append_comm (l₁ := l) (l₂ := [a])
theorem perm_ins {α : Type} (l : List α) (j : Nat) (a : α) : (l.take j ++ a :: l.drop j).Perm (a :: l) := by
  have := (List.perm_middle (l₁ := l.take j) (l₂ := l.drop j) (a := a))
  rwa [List.take_append_drop] at this
theorem VarI.good (h : VarI ev rs0 ms0 S rs ms) (sl : rs.length ≤ 24) (ml : ms.length ≤ 6) : GoodSys rs ms := ⟨h.gs, fun m hm => (h.gm m hm).1, h.nd, sl, ml, h.one⟩
/-- where the words of two systems mean the same -/
def Agree (rs0 : List SR) (ms0 : List MR) (rs : List SR) (ms : List MR) : Prop := (∀ b ∈ rs, ∀ a ∈ rs0, a.w = b.w → a.v = b.v) ∧ (∀ b ∈ ms, ∀ a ∈ ms0, a.w = b.w → a.v = b.v) ∧ (∀ b ∈ rs, ∀ a ∈ ms0, a.w ≠ b.w) ∧ ∀ b ∈ ms, ∀ a ∈ rs0, a.w ≠ b.w
end
end KN
end
section
set_option Elab.async false
set_option linter.all false
set_option maxRecDepth 100000
set_option maxHeartbeats 4000000
set_option pp.maxSteps 1500
set_option pp.deepTerms false
local macro_rules | `(tactic| walk_at "ne") => `(tactic| first
  | assumption | (apply Ne.symm; assumption)
  | exact R.ne_new (by assumption) | exact (R.ne_new (by assumption)).symm
  | exact L2.ne_of_none (by assumption) (by assumption) | exact (L2.ne_of_none (by assumption) (by assumption)).symm
  | exact L2.ne_of_none (by assumption) (R.free_new (by assumption)) | exact (L2.ne_of_none (by assumption) (R.free_new (by assumption))).symm)
local macro_rules | `(tactic| walk_at "at") => `(tactic| first
  | assumption | exact L2.upd_same
  | (refine R.sb (H := ?H) (p := ?p) ?e ?n ?h; (case e => assumption); (case n => walk_at "ne"); (case h => walk_at "at"))
  | (refine R.sm (H := ?H) ?e ?h; (case e => assumption); (case h => walk_at "at"))
  | (refine Eq.trans (L2.upd_ne ?_) ?_ <;> first | walk_at "ne" | walk_at "at"))
local macro_rules | `(tactic| walk_at "sqt") => `(tactic| first | assumption | (refine L2.SqT.of ?_; walk_at "at"))
local macro_rules | `(tactic| walk_at "ty") => `(tactic| first | exact R.tyN | exact R.tyB | exact R.tyI | exact R.tyS | (refine R.tyT (xs := ?xs) ?h; case h => walk_at "at") | (refine R.tyL (xs := ?xs) ?h; case h => walk_at "at"))
local macro_rules | `(tactic| walk_at "kit") => `(tactic| first | exact R.kit_NoneType_tuple | exact R.kit_NoneType_list | exact R.kit_NoneType_bool | exact R.kit_NoneType_str | exact R.kit_NoneType_int | exact R.kit_bool_tuple | exact R.kit_bool_list | exact R.kit_bool_bool | exact R.kit_bool_str | exact R.kit_bool_int | exact R.kit_int_tuple | exact R.kit_int_list | exact R.kit_int_bool | exact R.kit_int_str | exact R.kit_int_int | exact R.kit_str_tuple | exact R.kit_str_list | exact R.kit_str_bool | exact R.kit_str_str | exact R.kit_str_int | exact R.kit_tuple_tuple | exact R.kit_tuple_list | exact R.kit_tuple_bool | exact R.kit_tuple_str | exact R.kit_tuple_int | exact R.kit_list_tuple | exact R.kit_list_list | exact R.kit_list_bool | exact R.kit_list_str | exact R.kit_list_int)
local macro_rules | `(tactic| walk_at "sz") => `(tactic| first | assumption | (refine Nat.le_trans ?_ (show 1000 ≤ PySem.sizeLine by decide); omega) | decide)
local macro_rules | `(tactic| walk_at "szl") => `(tactic| first | assumption | exact Nat.le_of_lt (L2.small1000 (by omega)) | decide | decide +kernel)
local macro_rules | `(tactic| walk_at "sys") => `(tactic| first | assumption | exact KN.SysAt.same (by assumption) (by assumption))
local macro_rules | `(tactic| walk_at "dk") => `(tactic| first | exact R.rowsS _ _ | exact R.rowsM _ _)
local macro_rules | `(tactic| walk_at "sqa") => `(tactic| first | assumption | exact R.SeqA.same (by assumption) (by assumption) | exact R.SeqA.new (by assumption) (by assumption) | (exact Or.inl (by walk_at "at")) | (exact Or.inr (by walk_at "at")))
local macro_rules | `(tactic| walk_at "ix") => `(tactic| first | rfl | (exact L2.atI_nat (by assumption)) | assumption)
local macro_rules | `(tactic| walk_at "cond") => `(tactic| first
  | exact Or.inl (by decide) | exact Or.inr (by decide) | exact Or.inl ⟨by omega, by omega⟩ | exact Or.inr ⟨by omega, by omega⟩
  | (constructor <;> omega) | (show _ ≠ _; omega) | decide | omega)
local macro_rules | `(tactic| walk_at "r1") => `(tactic| first
  | ((with_reducible refine R.var (v := ?v) ?h ?q); case h => rfl)
  | with_reducible apply R.cons
  | with_reducible apply R.c
  | with_reducible apply R.nil
  | with_reducible apply R.op
  | with_reducible apply R.gname
  | with_reducible apply R.seq
  | with_reducible apply R.call
  | with_reducible apply R.asg
  | with_reducible apply R.ex
  | with_reducible apply R.tst
  | with_reducible apply R.i0
  | with_reducible apply R.ifs
  | with_reducible apply R.ret
  | with_reducible apply R.retN
  | with_reducible apply R.drop
  | with_reducible apply R.next
  | with_reducible apply R.tb_
  | with_reducible apply R.eqI
  | with_reducible apply R.neI
  | ((with_reducible refine R.ic ?_ ?_); · walk_at "cond")
  | with_reducible apply R.u0
  | with_reducible apply R.un
  | ((with_reducible refine R.eq ?_ ?_); · rfl)
  | ((with_reducible refine R.ne ?_ ?_); · rfl)
  | with_reducible apply R.and_
  | with_reducible apply R.or_
  | with_reducible apply R.not_
  | with_reducible apply R.ife
  | with_reducible apply R.chain
  | with_reducible apply R.cb
  | with_reducible apply R.bm
  | with_reducible apply R.gsub
  | with_reducible apply R.gnil
  | with_reducible apply R.gcons
  | with_reducible apply R.yes
  | with_reducible apply R.int1
  | ((with_reducible refine R.lenL (xs := ?xs) ?h ?q); case h => walk_at "at")
  | ((with_reducible refine R.ixL (xs := ?xs) (v := ?v) ?h ?e ?q); (case h => walk_at "at"); (case e => walk_at "ix"))
  | ((with_reducible refine R.setL (xs := ?xs) (n := ?n) ?h ?e ?q); (case h => walk_at "at"); (case e => rfl))
  | ((with_reducible refine R.append (xs := ?xs) ?h ?e ?q); (case h => walk_at "at"); (case e => walk_at "cond"))
  | with_reducible apply R.is_
  | with_reducible apply R.isnot
  | with_reducible apply R.andV
  | with_reducible apply R.orV
  | with_reducible apply R.notV
  | ((with_reducible refine R.isi (s := ?s) (b := ?b) ?ty ?h ?q); (case ty => walk_at "ty"); (case h => walk_at "kit"))
  | ((with_reducible refine R.addS ?h ?q); (case h => walk_at "sz"))
  | with_reducible apply R.max2
  | with_reducible apply R.min2
  | ((with_reducible refine R.lenStr ?h ?q); (case h => walk_at "szl"))
  | ((with_reducible refine R.ixS (n := ?n) ?h ?e ?q); (case h => walk_at "szl"); (case e => walk_at "ix"))
  | ((with_reducible refine R.tyl (xs := ?xs) ?h ?q); (case h => walk_at "at"))
  | with_reducible apply R.itlist
  | with_reducible apply R.ittup
  | with_reducible apply R.m1
  | with_reducible apply R.m1s
  | with_reducible apply R.leS
  | with_reducible apply R.itstr
  | with_reducible apply R.itstrE
  | with_reducible apply R.lc
  | with_reducible apply R.lc2
  | with_reducible apply R.ckw
  | with_reducible apply R.par
  | with_reducible apply R.parE
  | with_reducible apply R.itrev
  | with_reducible apply R.dsetd
  | with_reducible apply R.dnotin_
  | with_reducible apply R.for_
  | ((with_reducible refine R.all_ (bs := ?bs) ?h ?q); (case h => walk_at "at"))
  | with_reducible apply R.rng1
  | ((with_reducible refine R.rngE ?h ?q); (case h => (constructor <;> omega)))
  | ((with_reducible refine R.lenT (xs := ?xs) ?h ?q); (case h => walk_at "sqt"))
  | ((with_reducible refine R.ixT (xs := ?xs) (v := ?v) ?h ?e ?q); (case h => walk_at "sqt"); (case e => walk_at "ix"))
  | ((refine R.itlE (xs := ?xs) ?h ?q); (case h => walk_at "at"))
  | ((refine R.ittE (xs := ?xs) ?h ?q); (case h => walk_at "at"))
  | ((refine R.gseq (xs := ?xs) ?h ?e ?q); (case h => walk_at "sqa"); (case e => rfl))
  | ((refine R.ixA (xs := ?xs) (v := ?v) ?h ?e ?q); (case h => walk_at "sqa"); (case e => walk_at "ix"))
  | ((refine R.lenA (xs := ?xs) ?h ?q); (case h => walk_at "sqa"))
  | ((with_reducible refine R.gtup (xs := ?xs) ?h ?e ?q); (case h => walk_at "sqt"); (case e => rfl))
  | with_reducible apply R.din_
  | with_reducible apply R.dput_
  | with_reducible apply R.dget2_
  | ((with_reducible refine R.aug_ (x := ?x) ?h ?q); case h => rfl)
  | with_reducible apply R.ipI_
  | with_reducible apply R.rng2
  | ((with_reducible refine R.rngE2 ?h ?q); (case h => (refine ⟨?_, ?_, ?_, ?_⟩ <;> omega)))
  | with_reducible apply R.brk
  | with_reducible apply R.intB
  | with_reducible apply R.meth_
  | ((refine KN.methS (rs := ?rs) (ms := ?ms) ?h (fun _ _ _ _ => rfl) ?q); case h => walk_at "sys")
  | with_reducible apply R.sl_
  | with_reducible apply R.np_
  | with_reducible apply R.pt_
  | with_reducible apply R.ptE
  | with_reducible apply R.dget_
  | with_reducible apply R.revL_
  | ((refine R.dgetS (kvs := ?kvs) (v := ?v) ?h ?e ?q); (case h => walk_at "at"); (case e => walk_at "dk"))
  | with_reducible apply R.sfld
  | with_reducible apply R.fld_
  | with_reducible apply R.dc
  | with_reducible apply R.dget1_
  | with_reducible apply R.itseq
  | with_reducible apply R.itenum
  | with_reducible apply R.itT
  | with_reducible apply R.itF
  | with_reducible apply R.itNT
  | with_reducible apply R.itNF
  | (with_reducible apply R.tup)
  | (with_reducible apply R.lst))
local macro_rules | `(tactic| walk_at "rd") => `(tactic| (repeat (first | walk_at "r1" | (dsimp only [Int.reduceToNat, List.set_cons_succ, List.set_cons_zero, List.length_cons, List.length_nil, List.nil_append, List.cons_append, List.append_nil]))))
local macro_rules | `(tactic| walk_at "go") => `(tactic| (rw [R.start_eq]; dsimp only [R.startE, List.map_nil]; walk_at "rd"))
local macro_rules | `(tactic| walk_at "r1") => `(tactic| first | with_reducible apply R.callN | with_reducible apply R.tr_ | with_reducible apply R.rng3 | with_reducible apply R.bits | with_reducible apply R.dnewT)
-- RTX
namespace KN
open PySem L2 SX R
open C8 (Cal Def cal0 pe_c pe_gc fnScope fnBody pss_cut Met pe_mt pe_mt0)
section
section
variable {H0 H : Hp} {p l s m : Addr} {cs : List Int} {xs ys : List V} {ds es : List (List V)}
theorem DM.appS {a : Addr} {d : List V} (M : DM H0 H p l s m cs xs ds ys es) (h : H a = some (.tup d)) : DM H0 (upd H s (.lst (xs ++ [.ref a]))) p l s m cs (xs ++ [.ref a]) (ds ++ [d]) ys es :=
  ⟨M.R.app h, by rw [upd_ne M.ms]; exact M.hm, M.tm.keep (keep_list M.R.hs), M.m0, M.mp, M.ml, M.ms⟩
theorem TupsAt.ins : ∀ {xs : List V} {ds : List (List V)} (j : Nat) {a : Addr} {d : List V}, TupsAt H xs ds → H a = some (.tup d) → TupsAt H (xs.take j ++ [.ref a] ++ xs.drop j) (ds.take j ++ [d] ++ ds.drop j)
  | _, _, 0, _, _, h, ha => .cons ha h
  | _, _, j + 1, _, _, .nil, ha => .cons ha .nil
  | _, _, j + 1, _, _, .cons h t, ha => .cons h (TupsAt.ins j t ha)
theorem TupsAt.revA : ∀ {xs ds}, TupsAt H xs ds → TupsAt H xs.reverse ds.reverse
  | _, _, .nil => .nil
  | _, _, .cons h t => by
    rw [List.reverse_cons, List.reverse_cons]
    exact (TupsAt.revA t).snoc h
theorem DM.insS {a : Addr} {d : List V} (j : Nat) (M : DM H0 H p l s m cs xs ds ys es) (h : H a = some (.tup d)) : DM H0 (upd H s (.lst (xs.take j ++ [.ref a] ++ xs.drop j))) p l s m cs (xs.take j ++ [.ref a] ++ xs.drop j) (ds.take j ++ [d] ++ ds.drop j) ys es :=
  ⟨⟨M.R.sb.put' M.R.s0, M.R.P.put M.R.sp M.R.sl, by rw [upd_ne M.R.sl.symm]; exact M.R.hl, upd_same, (TupsAt.ins j M.R.ts h).keep (keep_list M.R.hs), M.R.s0, M.R.sp, M.R.sl⟩, by rw [upd_ne M.ms]; exact M.hm, M.tm.keep (keep_list M.R.hs), M.m0, M.mp, M.ml, M.ms⟩
theorem DM.insM {a : Addr} {d : List V} (j : Nat) (M : DM H0 H p l s m cs xs ds ys es) (h : H a = some (.tup d)) : DM H0 (upd H m (.lst (ys.take j ++ [.ref a] ++ ys.drop j))) p l s m cs xs ds (ys.take j ++ [.ref a] ++ ys.drop j) (es.take j ++ [d] ++ es.drop j) :=
  ⟨⟨M.R.sb.put' M.m0, M.R.P.put M.mp M.ml, by rw [upd_ne M.ml.symm]; exact M.R.hl, by rw [upd_ne M.ms.symm]; exact M.R.hs, M.R.ts.keep (keep_list M.hm), M.R.s0, M.R.sp, M.R.sl⟩, upd_same, (TupsAt.ins j M.tm h).keep (keep_list M.hm), M.m0, M.mp, M.ml, M.ms⟩
theorem ins_map {α β : Type} (f : α → β) (l : List α) (j : Nat) (a : α) : (l.map f).take j ++ [f a] ++ (l.map f).drop j = (l.take j ++ a :: l.drop j).map f := by
  rw [List.map_append, List.map_cons, List.map_take, List.map_drop, List.append_assoc]
  rfl
end
theorem nd_inj {α : Type} {f : α → Str} {l : List α} (h : (l.map f).Nodup) {a b : α} (ha : a ∈ l) (hb : b ∈ l) (e : f a = f b) : a = b := by
  induction l with
  | nil => cases ha
  | cons x l ih =>
    rw [List.map_cons, List.nodup_cons] at h
    rcases List.mem_cons.mp ha with h1 | h1
    · rcases List.mem_cons.mp hb with h2 | h2
      · rw [h1, h2]
      · exact absurd (List.mem_map.mpr ⟨b, h2, by rw [← e, h1]⟩) h.1
    · rcases List.mem_cons.mp hb with h2 | h2
      · exact absurd (List.mem_map.mpr ⟨a, h1, by rw [e, h2]⟩) h.1
      · exact ih h.2 h1 h2
theorem fst_ne {z y : Str} (h : Fst z) (c : Nat) (r : List Nat) (hy : y.cps.toList = c :: r) (hc : 120 ≤ c) : z ≠ y := by
  obtain ⟨d, q, rfl, hd⟩ := h
  intro e
  have e2 : (S (d :: q)).cps.toList = c :: r := by rw [e, hy]
  have e3 : d :: q = c :: r := e2
  cases e3
  omega
theorem nd_take {l : List Str} (h : l.Nodup) {i : Nat} {z : Str} (hz : l[i]? = some z) : z ∉ l.take i := fun m => by
  obtain ⟨j, hj, e⟩ := List.mem_iff_getElem.mp m
  rw [List.length_take] at hj
  rw [List.getElem_take] at e
  obtain ⟨hi, e2⟩ := List.getElem?_eq_some_iff.mp hz
  have := (List.nodup_iff_pairwise_ne.mp h)
  rw [List.pairwise_iff_getElem] at this
  exact this j i (by omega) hi (by omega) (by rw [e, e2])
variable {P : Program} {w : World} {K : PySem.W.Frag} {mg : Str → Option Value} {base : Heap}
abbrev sLvar : Stmt := top 44
theorem scLvar : FnScope ["pool", "rows", "is_even", "simple", "multipliers", "word", "value", "kind", "row", "other"] ["pool", "rows", "is_even"] (fnScope sLvar) := ⟨rfl, rfl, rfl, by decide +kernel, rfl, by decide +kernel, by decide +kernel⟩
def spLvar : Sp := fun vs H Q _ => ∃ (p l r : Addr) (rs : List SR) (ms : List MR) (ev : Bool), vs = [.ref p, .ref r, .bl ev] ∧ PoolAt H p l ∧ RowsAt H r rs ms ∧ Drawn 30 1000 99 rs ms ∧
  ∀ H' r' rs' ms', SameBut p H H' → PoolAt H' p l → RowsAt H' r' rs' ms' → GoodSys rs' ms' → (∀ m ∈ ms', Bnd m) → (∀ r ∈ rs', r.v ≤ 31) → (ev = true → Agree rs ms rs' ms') → Q (.ref r') H'
theorem c_lvar (Z : Zs mg) (c_take : Cal P w K mg base 2 "_law_take" spTake []) (c_counted : Cal P w K mg base 3 "_law_counted" spLctd []) {f : Addr} {fd : FuncData} (F : Def K mg "_law_varied" sLvar f fd) (b : Binds K fd ["pool", "rows", "is_even"] []) : Cal P w K mg base 4 "_law_varied" spLvar [] := by
  refine cal0 F b .nil scLvar (fun vs H Q E h => ?_) (fun cdv A outer s H vs Q E hr h => ?_)
  · obtain ⟨p, l, r, rs, ms, ev, rfl, _⟩ := h
    rfl
  · obtain ⟨p, l, r, rs, ms, ev, rfl, hP, hR, dr, k⟩ := h
    refine ⟨_, pss_cons (ps_set (i := 3) scLvar.nd rfl (Or.inl rfl) (pe_lst pa_nil))
      (pss_cons (ps_set (i := 4) scLvar.nd rfl (Or.inl rfl) (pe_lst pa_nil))
      (pss_cons (ps_for PassesOwn.never rfl (kiL K (pe_dget (hu_of hr) (pv 1) pe_str (fun _ _ => rfl))) (kgTup K (n := 2) rfl (pgs_cons (pg_name (i := 5) scLvar.nd rfl (Or.inl rfl)) (pgs_cons (pg_name (i := 6) scLvar.nd rfl (Or.inl rfl)) pgs_nil)))
        (pss_cons (ps_set (i := 7) scLvar.nd rfl (Or.inl rfl) (pe_c c_take hr (by omega) (by rfl) (pa_cons (pv 0) (pa_cons pe_int pa_nil))))
      (pss_cut (ps_if (PW.pt (pw_and (pt_cmpR op_eq (pv 7) pe_int (nomark _)) (pw_and1 (pt_not (pt_val (pv 2))))))
        (pss_one (ps_set (i := 6) scLvar.nd rfl (Or.inl rfl) (pe_op op_add (pv 6) pe_int)))
        (pss_nil))
      (pss_one (ps_if (PW.pt (pw_and (pt_cmpR op_eq (pv 7) pe_int (nomark _)) (pw_and (pt_not (pt_val (pv 2))) (pw_and1 (pt_cmpR op_lt (pe_op op_add (pe_callB (kLen K) (by rfl) Z.len PySem.boot_len (pa_cons (pe_dget (hu_of hr) (pv 1) pe_str (fun _ _ => rfl)) pa_nil)) (pe_callB (kLen K) (by rfl) Z.len PySem.boot_len (pa_cons (pv 4) pa_nil))) pe_int (nomark _))))))
        (pss_one (ps_expr (kBM K (pe_bm PySem.F.plainAttrs_list PySem.F.slot_list_append PySem.F.type_list_append mt_append (pv 4) (pa_cons (pe_tup (pa_cons (pv 5) (pa_cons (pe_op op_add (pv 6) pe_int) (pa_cons (pe_op op_add pe_int (pe_c c_take hr (by omega) (by rfl) (pa_cons (pv 0) (pa_cons pe_int pa_nil)))) (pa_cons pe_bl (pa_cons pe_int pa_nil)))))) pa_nil)))))
        (pss_one (ps_if (pt_cmpR op_gt (pv 7) pe_int (nomark _))
        (pss_one (ps_expr (kBM K (pe_bm PySem.F.plainAttrs_list PySem.F.slot_list_append PySem.F.type_list_append mt_append (pv 3) (pa_cons (pe_tup (pa_cons (pv 5) (pa_cons (pv 6) pa_nil))) pa_nil)))))
        (pss_nil))))))))
      (pss_cons (ps_for PassesOwn.never rfl (kiL K (pe_dget (hu_of hr) (pv 1) pe_str (fun _ _ => rfl))) (pg_name (i := 8) scLvar.nd rfl (Or.inl rfl))
        (pss_one (ps_if (PW.pt (pw_and (pt_cmpR op_gt (pe_c c_take hr (by omega) (by rfl) (pa_cons (pv 0) (pa_cons pe_int pa_nil))) pe_int (nomark _)) (pw_and1 (pt_cmpR op_lt (pe_callB (kLen K) (by rfl) Z.len PySem.boot_len (pa_cons (pv 4) pa_nil)) pe_int (nomark _)))))
        (pss_one (ps_expr (kBM K (pe_bm PySem.F.plainAttrs_list PySem.F.slot_list_append PySem.F.type_list_append mt_append (pv 4) (pa_cons (pe_c c_counted hr (by omega) (by rfl) (pa_cons (pv 0) (pa_cons (pv 8) (pa_cons (pv 2) (pa_cons (pe_callB (kAny K) (by rfl) Z.any (by decide +kernel) (pa_cons (pe_lc (own := [("other", 9)]) (g := gName 9) (tt := tYes) rfl scLvar.nd (kiL K (pv 4)) (blkOk_by (own := [("other", 9)]) (N := ["pool", "rows", "is_even", "simple", "multipliers", "word", "value", "kind", "row", "other"]) (sc := fnScope sLvar) (by decide +kernel)) (fun _ _ _ _ _ => (pg_name (i := 9) scLvar.nd rfl (Or.inl rfl))) (fun _ _ _ _ _ => pts_nil) (fun _ _ _ _ _ => pe_cmpR oIs (pe_ix (kIxT K) (pv 9) pe_int (fun _ _ => rfl)) pe_non (nomark _))) pa_nil)) pa_nil))))) pa_nil)))))
        (pss_nil))))
      (pss_cut (ps_if (PW.pt (pw_and (pt_cmpR op_eq (pe_c c_take hr (by omega) (by rfl) (pa_cons (pv 0) (pa_cons pe_int pa_nil))) pe_int (nomark _)) (pw_and1 (pt_cmpR op_lt (pe_callB (kLen K) (by rfl) Z.len PySem.boot_len (pa_cons (pv 3) pa_nil)) pe_int (nomark _)))))
        (pss_one (ps_expr (kBM K (pe_bm PySem.F.plainAttrs_list PySem.F.slot_list_insert PySem.F.type_list_insert mt_insert (pv 3) (pa_cons (pe_c c_take hr (by omega) (by rfl) (pa_cons (pv 0) (pa_cons (pe_op op_add (pe_callB (kLen K) (by rfl) Z.len PySem.boot_len (pa_cons (pv 3) pa_nil)) pe_int) pa_nil))) (pa_cons (pe_tup (pa_cons pe_str (pa_cons (pe_op op_add pe_int (pe_c c_take hr (by omega) (by rfl) (pa_cons (pv 0) (pa_cons pe_int pa_nil)))) pa_nil))) pa_nil))))))
        (pss_nil))
      (pss_cut (ps_if (pt_cmpR op_eq (pe_c c_take hr (by omega) (by rfl) (pa_cons (pv 0) (pa_cons pe_int pa_nil))) pe_int (nomark _))
        (pss_one (ps_expr (kBM K (pe_bm PySem.F.plainAttrs_list PySem.F.slot_list_insert PySem.F.type_list_insert mt_insert (pv 4) (pa_cons (pe_c c_take hr (by omega) (by rfl) (pa_cons (pv 0) (pa_cons (pe_op op_add (pe_callB (kLen K) (by rfl) Z.len PySem.boot_len (pa_cons (pv 4) pa_nil)) pe_int) pa_nil))) (pa_cons (pe_tup (pa_cons pe_str (pa_cons (pe_op op_add pe_int (pe_c c_take hr (by omega) (by rfl) (pa_cons (pv 0) (pa_cons pe_int pa_nil)))) (pa_cons (pe_op op_add pe_int (pe_c c_take hr (by omega) (by rfl) (pa_cons (pv 0) (pa_cons pe_int pa_nil)))) (pa_cons pe_bl (pa_cons pe_int pa_nil)))))) pa_nil))))))
        (pss_nil))
      (pss_cut (ps_if (pt_cmpR op_eq (pe_c c_take hr (by omega) (by rfl) (pa_cons (pv 0) (pa_cons pe_int pa_nil))) pe_int (nomark _))
        (pss_one (ps_ret (pe_disp (pps_cons pe_str (kRevL K (pv 3)) (pps_cons pe_str (kRevL K (pv 4)) pps_nil)) rfl rfl (by intro h; cases h) (by decide))))
        (pss_nil))
      (pss_one (ps_ret (pe_disp (pps_cons pe_str (pv 3) (pps_cons pe_str (pv 4) pps_nil)) rfl rfl (by intro h; cases h) (by decide)))))))))), ?_⟩
    have hg := dr.g
    have sl := dr.n
    have ml := hg.ml
    have ndW := List.nodup_append.mp hg.nd
    obtain ⟨nd1, nd2, nd3⟩ := ndW
    obtain ⟨s0, m0, xs0, ys0, hr0, hs0, hts0, hm0, htm0⟩ := id hR
    have lx0 := hts0.len
    have ly0 := htm0.len
    rw [List.length_map] at lx0 ly0
    obtain ⟨⟨cs, i0, d0, z0, hp, hl, hpos⟩, hne⟩ := id hP
    walk_at "go"
    refine ⟨by decide, fun s hs => ?_⟩
    have R0 := DL.of hP hl SameBut.refl hP hs
    generalize upd H s (.lst []) = H1 at R0
    walk_at "rd"
    refine ⟨by decide, fun m hm => ?_⟩
    have M0 := DM.of R0 hm
    generalize upd H1 m (.lst []) = H2 at M0
    have Rk : ∀ {G : Hp}, SameBut p H G → RowsAt G r rs ms := fun e => hR.pool hP e
    have rp : r ≠ p := ne_of hr0 hp (by intro z; cases z)
    have sp0 := tups_ne hP hs0 hts0
    have mp0 := tups_ne hP hm0 htm0
    have hr2 := M0.R.sb _ _ rp hr0
    walk_at "rd"
    have hs2' := M0.R.sb _ _ sp0 hs0
    refine ⟨s0, rfl, ⟨_, SqL.of hs2'⟩, ?_⟩
    refine for_it (walk_list (K := K) (a := s0) (xs := xs0)) (fun i σ' H' => ∃ (q5 q6 q7 : Option V) (rs2 : List SR) (ms2 : List MR) (xs ys : List V), σ' = [some (.ref p), some (.ref r), some (.bl ev), some (.ref s), some (.ref m), q5, q6, q7, none, none] ∧
      DM H H' p l s m cs xs (rs2.map srV) ys (ms2.map mrV) ∧ VarI ev rs ms ((rs.take i).map (·.w)) rs2 ms2 ∧ rs2.length ≤ i ∧ ms2.length ≤ 5 ∧ (∀ q ∈ ms2, q.c.isNone = false) ∧ ∀ r ∈ rs2, r.v ≤ 31)
      ⟨_, _, _, [], [], [], [], rfl, M0, VarI.nil, Nat.le_refl _, Nat.zero_le _, (fun q h => nomatch h), fun q h => nomatch h⟩ (fun i σ' H' _ hh => by obtain ⟨_, _, _, _, _, _, _, _, e, _⟩ := hh; exact SqL.of (e.R.sb _ _ sp0 hs0)) ?_ ?_
    · rintro i u σ' H3 H3' hi ⟨q5, q6, q7, rs2, ms2, xs, ys, rfl, M3, V3, l3, m3, n3, b3⟩ ⟨rfl, hu⟩
      have hri : rs[i]? = some rs[i] := List.getElem?_eq_getElem (by omega)
      obtain ⟨b, hya, hb⟩ := hts0.get i (srV rs[i]) (by rw [List.getElem?_map, hri]; rfl)
      rw [hya] at hu
      cases hu
      have hmem := List.mem_of_getElem? hri
      have gS := hg.s _ hmem
      have v30 := dr.s _ hmem
      have et : (rs.take (i + 1)).map (·.w) = (rs.take i).map (·.w) ++ [rs[i].w] := by rw [List.take_add_one, hri, List.map_append]; rfl
      have nin : rs[i].w ∉ (rs.take i).map (·.w) := by
        have := nd_take nd1 (i := i) (z := rs[i].w) (by rw [List.getElem?_map, hri]; rfl)
        rwa [← List.map_take] at this
      have e1 : ∀ a ∈ rs, a.w = rs[i].w → a.v = rs[i].v := fun a ha e => by rw [nd_inj nd1 ha hmem e]
      have e2 : ∀ a ∈ ms, a.w ≠ rs[i].w := fun a ha e => nd3 _ (List.mem_map.mpr ⟨_, hmem, rfl⟩) _ (List.mem_map.mpr ⟨a, ha, rfl⟩) e.symm
      generalize rs[i] = rr at *
      have hb3 : H3' b = some (.tup [.str rr.w, .int rr.v]) := M3.R.sb _ _ (ne_of hb hp (by intro z; cases z)) hb
      have lo := gS.lo
      have wd : ∀ z ∈ rr.w :: (rs.take i).map (·.w), z ∈ (rs.take (i + 1)).map (·.w) := fun z hz => by
        rw [et]
        rcases List.mem_cons.mp hz with rfl | hz
        · exact List.mem_append.mpr (.inr (List.mem_singleton.mpr rfl))
        · exact List.mem_append.mpr (.inl hz)
      have wd2 : ∀ z ∈ (rs.take i).map (·.w), z ∈ (rs.take (i + 1)).map (·.w) := fun z hz => wd z (List.mem_cons_of_mem _ hz)
      refine R.gtup (SqT.of hb3) rfl ?_
      refine R.gcons ?_
      refine R.gname ?_
      refine R.gcons ?_
      refine R.gname ?_
      refine R.gnil ?_
      walk_at "rd"
      refine r_take' M3.R.P (by decide) (by decide) (fun H4 kd e4 P4 l4 u4 => ?_)
      have M4 := M3.take e4 P4
      walk_at "rd"
      refine R.cut (fun σ' H' => ∃ v2 : Int, σ' = [some (.ref p), some (.ref r), some (.bl ev), some (.ref s), some (.ref m), some (.str rr.w), some (.int v2), some (.int kd), none, none] ∧ H' = H4 ∧ rr.v ≤ v2 ∧ v2 ≤ rr.v + 1 ∧ (ev = true → v2 = rr.v)) ?_ ?_
      · walk_at "rd"
        refine it (fun h5 => ?_) (fun h5 => ?_)
        · cases ev with
          | true =>
            walk_at "rd"
            exact ⟨_, rfl, rfl, Int.le_refl _, by omega, fun _ => rfl⟩
          | false =>
            walk_at "rd"
            exact ⟨_, rfl, rfl, by omega, Int.le_refl _, fun h => nomatch h⟩
        · walk_at "rd"
          exact ⟨_, rfl, rfl, Int.le_refl _, by omega, fun _ => rfl⟩
      · rintro σ1 H5 ⟨v2, rfl, rfl, a1, a2, a3⟩
        have hm5 := M4.hm
        have hs5 := M4.R.hs
        have yl := M4.tm.len
        have xl := M4.R.ts.len
        rw [List.length_map] at yl xl
        have hr5 := M4.R.sb _ _ rp hr0
        have hm05 := M4.R.sb _ _ mp0 hm0
        -- the word is put behind the simple ones, or nowhere
        have rest : ∃ (q5 q6 q7 : Option V) (rs2' : List SR) (ms2' : List MR) (xs' ys' : List V), ([some (.ref p), some (.ref r), some (.bl ev), some (.ref s), some (.ref m), some (.str rr.w), some (.int v2), some (.int kd), none, none] : L2.St) = [some (.ref p), some (.ref r), some (.bl ev), some (.ref s), some (.ref m), q5, q6, q7, none, none] ∧
            DM H H5 p l s m cs xs' (rs2'.map srV) ys' (ms2'.map mrV) ∧ VarI ev rs ms ((rs.take (i + 1)).map (·.w)) rs2' ms2' ∧ rs2'.length ≤ i + 1 ∧ ms2'.length ≤ 5 ∧ (∀ q ∈ ms2', q.c.isNone = false) ∧ ∀ r ∈ rs2', r.v ≤ 31 :=
          ⟨_, _, _, rs2, ms2, xs, ys, rfl, M4, V3.wide wd2, by omega, m3, n3, b3⟩
        have putS : ∀ (G : Hp) (t : Addr), Same H5 G → G t = some (.tup [.str rr.w, .int v2]) → ∃ (xs' : List V), G s = some (.lst xs') ∧ xs'.length < sizeLine ∧ ∃ (q5 q6 q7 : Option V) (rs2' : List SR) (ms2' : List MR) (xs'' ys' : List V), ([some (.ref p), some (.ref r), some (.bl ev), some (.ref s), some (.ref m), some (.str rr.w), some (.int v2), some (.int kd), none, none] : L2.St) = [some (.ref p), some (.ref r), some (.bl ev), some (.ref s), some (.ref m), q5, q6, q7, none, none] ∧
            DM H (upd G s (.lst (xs' ++ [.ref t]))) p l s m cs xs'' (rs2'.map srV) ys' (ms2'.map mrV) ∧ VarI ev rs ms ((rs.take (i + 1)).map (·.w)) rs2' ms2' ∧ rs2'.length ≤ i + 1 ∧ ms2'.length ≤ 5 ∧ (∀ q ∈ ms2', q.c.isNone = false) ∧ ∀ r ∈ rs2', r.v ≤ 31 := fun G t g1 g2 => by
          have MG := M4.same g1
          refine ⟨xs, MG.R.hs, small1000 (by omega), _, _, _, rs2 ++ [⟨rr.w, v2⟩], ms2, xs ++ [.ref t], ys, rfl, ?_, ?_, by rw [List.length_append]; show rs2.length + 1 ≤ _; omega, m3, n3, fun q hq => ?_⟩
          · rw [List.map_append]
            exact MG.appS g2
          · exact ((V3.consS ⟨rr.w, v2⟩ ⟨gS.w, by show 1 ≤ v2; omega, by show v2 ≤ 100000; omega⟩ nin (fun he a ha e => by rw [e1 a ha e, a3 he]) (fun _ => e2)).wide wd).perm (perm_snoc _ _) (List.Perm.refl _)
          · rcases List.mem_append.mp hq with h | h
            · exact b3 q h
            · rw [List.mem_singleton.mp h]; show v2 ≤ 31; omega
        walk_at "rd"
        refine it (fun h5 => ?_) (fun h5 => ?_)
        · cases ev with
          | true =>
            walk_at "rd"
            refine it (fun h6 => ?_) (fun h6 => ?_)
            · walk_at "rd"
              refine ⟨by decide, fun t ht => R.gen ht fun H6 s6 h6 => ?_⟩
              obtain ⟨xs', z1, z2, z3⟩ := putS H6 t s6 h6
              walk_at "rd"
              exact z3
            · walk_at "rd"
              exact rest
          | false =>
            walk_at "rd"
            refine it (fun h6 => ?_) (fun h6 => ?_)
            · walk_at "rd"
              refine r_take' M4.R.P (by decide) (by decide) (fun H6 d6 e6 P6 l6 u6 => ?_)
              have M6 := M4.take e6 P6
              walk_at "rd"
              refine ⟨by decide, fun t ht => R.gen ht fun H7 s7 h7 => ?_⟩
              have M7 := M6.same s7
              walk_at "rd"
              refine R.append M7.hm (small1000 (by omega)) ?_
              refine ⟨_, _, _, rs2, ms2 ++ [⟨rr.w, v2 + 1, some (1 + d6), false, 0⟩], xs, ys ++ [.ref t], rfl, ?_, ?_, by omega, by rw [List.length_append]; show ms2.length + 1 ≤ 5; omega, fun q hq => ?_, b3⟩
              · rw [List.map_append]
                exact M7.app h7
              · refine ((V3.consM ⟨rr.w, v2 + 1, some (1 + d6), false, 0⟩ ⟨⟨gS.w, by show 2 ≤ v2 + 1; omega, by show v2 + 1 ≤ 100000; omega, fun c hc => ?_, Int.le_refl _, by show 0 < v2 + 1; omega⟩, by show v2 + 1 ≤ 1001; omega, fun c hc => ?_⟩ nin (fun h => nomatch h) (fun h => nomatch h) (fun h => nomatch h)).wide wd).perm (List.Perm.refl _) (perm_snoc _ _)
                · cases hc
                  refine ⟨by omega, by omega, ?_⟩
                  have : (1 + d6) * (v2 + 1) ≤ 9 * (v2 + 1) := Int.mul_le_mul_of_nonneg_right (by omega) (by omega)
                  show (1 + d6) * (v2 + 1) + 0 ≤ 100000
                  omega
                · cases hc
                  omega
              · rcases List.mem_append.mp hq with h | h
                · exact n3 q h
                · rw [List.mem_singleton.mp h]; rfl
            · walk_at "rd"
              refine it (fun h6 => ?_) (fun h6 => ?_)
              · walk_at "rd"
                refine ⟨by decide, fun t ht => R.gen ht fun H6 s6 h6 => ?_⟩
                obtain ⟨xs', z1, z2, z3⟩ := putS H6 t s6 h6
                walk_at "rd"
                exact z3
              · walk_at "rd"
                exact rest
        · walk_at "rd"
          refine it (fun h6 => ?_) (fun h6 => ?_)
          · walk_at "rd"
            refine ⟨by decide, fun t ht => R.gen ht fun H6 s6 h6 => ?_⟩
            obtain ⟨xs', z1, z2, z3⟩ := putS H6 t s6 h6
            walk_at "rd"
            exact z3
          · walk_at "rd"
            exact rest
    · rintro σ' H3 ⟨q5, q6, q7, rs2, ms2, xs, ys, rfl, M3, V3, l3, m3, n3, b3⟩
      rw [lx0, List.take_of_length_le (Nat.le_refl _)] at V3
      have hr3 := M3.R.sb _ _ rp hr0
      have hm03 := M3.R.sb _ _ mp0 hm0
      walk_at "rd"
      refine for_it (walk_list (K := K) (a := m0) (xs := ys0)) (fun j σ' H' => ∃ (q5 q6 q7 q8 : Option V) (rs2 : List SR) (ms2 : List MR) (xs ys : List V), σ' = [some (.ref p), some (.ref r), some (.bl ev), some (.ref s), some (.ref m), q5, q6, q7, q8, none] ∧
        DM H H' p l s m cs xs (rs2.map srV) ys (ms2.map mrV) ∧ VarI ev rs ms (rs.map (·.w) ++ (ms.take j).map (·.w)) rs2 ms2 ∧ rs2.length ≤ 16 ∧ ms2.length ≤ 5 ∧ ∀ r ∈ rs2, r.v ≤ 31)
        ⟨_, _, _, _, rs2, ms2, xs, ys, rfl, M3, by rw [List.take_zero, List.map_nil, List.append_nil]; exact V3, by omega, m3, b3⟩ (fun j σ' H' _ hh => by obtain ⟨_, _, _, _, _, _, _, _, _, e, _⟩ := hh; exact SqL.of (e.R.sb _ _ mp0 hm0)) ?_ ?_
      · clear V3 M3 hr3 hm03 b3 n3 m3 l3
        rintro j u σ' H4 H4' hj ⟨q5, q6, q7, q8, rs2, ms2, xs, ys, rfl, M4, V4, l4, m4, b4⟩ ⟨rfl, hu⟩
        have hrj : ms[j]? = some ms[j] := List.getElem?_eq_getElem (by omega)
        obtain ⟨b, hya, hb⟩ := htm0.get j (mrV ms[j]) (by rw [List.getElem?_map, hrj]; rfl)
        rw [hya] at hu
        cases hu
        have hmem := List.mem_of_getElem? hrj
        have gM := hg.m _ hmem
        have v10 := dr.v _ hmem
        have c99 := dr.c _ hmem
        have et : (ms.take (j + 1)).map (·.w) = (ms.take j).map (·.w) ++ [ms[j].w] := by rw [List.take_add_one, hrj, List.map_append]; rfl
        have nin : ms[j].w ∉ rs.map (·.w) ++ (ms.take j).map (·.w) := fun z => by
          rcases List.mem_append.mp z with z | z
          · exact nd3 _ z _ (List.mem_map.mpr ⟨_, hmem, rfl⟩) rfl
          · have := nd_take nd2 (i := j) (z := ms[j].w) (by rw [List.getElem?_map, hrj]; rfl)
            rw [← List.map_take] at this
            exact this z
        have e1 : ∀ a ∈ ms, a.w = ms[j].w → a.v = ms[j].v := fun a ha e => by rw [nd_inj nd2 ha hmem e]
        have e2 : ∀ a ∈ rs, a.w ≠ ms[j].w := fun a ha e => nd3 _ (List.mem_map.mpr ⟨a, ha, rfl⟩) _ (List.mem_map.mpr ⟨_, hmem, rfl⟩) e
        generalize ms[j] = mm at *
        have hb4 : H4' b = some (.tup (mrV mm)) := M4.R.sb _ _ (ne_of hb hp (by intro z; cases z)) hb
        have wd : ∀ z ∈ mm.w :: (rs.map (·.w) ++ (ms.take j).map (·.w)), z ∈ rs.map (·.w) ++ (ms.take (j + 1)).map (·.w) := fun z hz => by
          rw [et]
          rcases List.mem_cons.mp hz with rfl | hz
          · exact List.mem_append.mpr (.inr (List.mem_append.mpr (.inr (List.mem_singleton.mpr rfl))))
          · rcases List.mem_append.mp hz with h | h
            · exact List.mem_append.mpr (.inl h)
            · exact List.mem_append.mpr (.inr (List.mem_append.mpr (.inl h)))
        have wd2 : ∀ z ∈ rs.map (·.w) ++ (ms.take j).map (·.w), z ∈ rs.map (·.w) ++ (ms.take (j + 1)).map (·.w) := fun z hz => wd z (List.mem_cons_of_mem _ hz)
        refine R.gname ?_
        walk_at "rd"
        refine r_take' M4.R.P (by decide) (by decide) (fun H5 d5 e5 P5 l5 u5 => ?_)
        have M5 := M4.take e5 P5
        have hb5 := M5.R.sb _ _ (ne_of hb hp (by intro z; cases z)) hb
        have hm5 := M5.hm
        have yl := M5.tm.len
        rw [List.length_map] at yl
        walk_at "rd"
        have stay : ∃ (a5 a6 a7 a8 : Option V) (rs2' : List SR) (ms2' : List MR) (xs ys : List V), ([some (.ref p), some (.ref r), some (.bl ev), some (.ref s), some (.ref m), q5, q6, q7, some (.ref b), none] : L2.St) = [some (.ref p), some (.ref r), some (.bl ev), some (.ref s), some (.ref m), a5, a6, a7, a8, none] ∧
            DM H H5 p l s m cs xs (rs2'.map srV) ys (ms2'.map mrV) ∧ VarI ev rs ms (rs.map (·.w) ++ (ms.take (j + 1)).map (·.w)) rs2' ms2' ∧ rs2'.length ≤ 16 ∧ ms2'.length ≤ 5 ∧ ∀ r ∈ rs2', r.v ≤ 31 := ⟨_, _, _, _, rs2, ms2, xs, ys, rfl, M5, V4.wide wd2, l4, m4, b4⟩
        refine it (fun h5 => ?_) (fun h5 => ?_)
        · walk_at "rd"
          refine it (fun h6 => ?_) (fun h6 => ?_)
          · walk_at "rd"
            intro D hD
            refine lc_it (walk_list (K := K) (a := m) (xs := ys)) (fun j H' => Same H5 H' ∧ H' D = some (.lst (((ms2.take j).map fun r => r.c.isNone).map V.bl))) ⟨same_new (Same.refl _) hD, upd_same⟩ (fun j H' _ hh => SqL.of (hh.1 _ _ hm5)) ?_ ?_
            · rintro t x H6 H6' ht ⟨s6, hD6⟩ ⟨rfl, hx⟩
              have hmt : ms2[t]? = some ms2[t] := List.getElem?_eq_getElem (by omega)
              obtain ⟨a, hya, ha⟩ := M5.tm.get t (mrV ms2[t]) (by rw [List.getElem?_map, hmt]; rfl)
              rw [hya] at hx
              cases hx
              have ha6 := s6 _ _ ha
              have ett : ms2.take (t + 1) = ms2.take t ++ [ms2[t]] := by rw [List.take_add_one, hmt]; rfl
              refine R.gname ⟨rfl, ?_⟩
              unfold mrV at ha6
              walk_at "rd"
              refine ⟨_, hD6, small1000 (by rw [List.length_map, List.length_map, List.length_take]; omega), same_put s6 hD, ?_⟩
              rw [upd_same, ett, List.map_append, List.map_append]
              have en : decide (ocnt ms2[t].c = V.non) = ms2[t].c.isNone := by
                cases h : ms2[t].c with
                | none => rfl
                | some c => rfl
              rw [en]
              rfl
            · rintro H6 ⟨s6, hD6⟩
              rw [yl, List.take_of_length_le (Nat.le_refl _)] at hD6
              have M6 := M5.same s6
              walk_at "rd"
              refine R.any_ hD6 ?_
              rw [any_none ms2]
              walk_at "rd"
              refine ⟨p, l, b, mm, ev, _, rfl, M6.R.P, s6 _ _ hb5, gM, v10, c99, fun H7 t m' e7 P7 ht hw gB he hev => ?_⟩
              have M7 := M6.take e7 P7
              walk_at "rd"
              refine R.append M7.hm (small1000 (by omega)) ?_
              refine ⟨_, _, _, _, rs2, ms2 ++ [m'], xs, ys ++ [.ref t], rfl, ?_, ?_, l4, by rw [List.length_append]; show ms2.length + 1 ≤ 5; omega, b4⟩
              · rw [List.map_append]
                exact M7.app ht
              · refine ((V4.consM m' gB (by rw [hw]; exact nin) (fun hn q hq => ?_) (fun h a ha e => by rw [e1 a ha (e.trans hw), hev h]) (fun h a ha => by rw [hw]; exact e2 a ha)).wide (by rw [hw]; exact wd)).perm (List.Perm.refl _) (perm_snoc _ _)
                cases z : q.c.isNone with
                | false => rfl
                | true =>
                  have : 0 < (ms2.filter fun r => r.c.isNone).length := List.length_pos_of_mem (List.mem_filter.mpr ⟨hq, z⟩)
                  rw [he (decide_eq_true this)] at hn
                  cases hn
          · exact stay
        · exact stay
      · clear V3 M3 hr3 hm03 b3 n3 m3 l3
        rintro σ' H4 ⟨q5, q6, q7, q8, rs2, ms2, xs, ys, rfl, M4, V4, l4, m4, b4⟩
        rw [ly0, List.take_of_length_le (Nat.le_refl _)] at V4
        have F4 : ∀ z ∈ wsOf rs2 ms2, Fst z := fun z hz => dr.f z (V4.sub z hz)
        have zz : ∀ z, Fst z → z ≠ Str.ofString "zz" := fun z h => fst_ne h 122 [122] (by decide +kernel) (by decide)
        have yz : ∀ z, Fst z → z ≠ Str.ofString "yz" := fun z h => fst_ne h 121 [122] (by decide +kernel) (by decide)
        have fr : ∀ a ∈ rs, Fst a.w := fun a ha => dr.f _ (List.mem_append.mpr (.inl (List.mem_map.mpr ⟨a, ha, rfl⟩)))
        have fm : ∀ a ∈ ms, Fst a.w := fun a ha => dr.f _ (List.mem_append.mpr (.inr (List.mem_map.mpr ⟨a, ha, rfl⟩)))
        have V4' : VarI ev rs ms (wsOf rs2 ms2) rs2 ms2 := ⟨V4.gs, V4.gm, V4.nd, fun z hz => hz, V4.one, V4.eS, V4.eM, V4.xS, V4.xM⟩
        have gzz : GoodW (Str.ofString "zz") := goodW_of (by decide +kernel)
        have gyz : GoodW (Str.ofString "yz") := goodW_of (by decide +kernel)
        walk_at "rd"
        refine R.cut (fun σ' H' => ∃ (rs3 : List SR) (xs3 : List V) (S3 : List Str), σ' = [some (.ref p), some (.ref r), some (.bl ev), some (.ref s), some (.ref m), q5, q6, q7, q8, none] ∧
          DM H H' p l s m cs xs3 (rs3.map srV) ys (ms2.map mrV) ∧ VarI ev rs ms S3 rs3 ms2 ∧ rs3.length ≤ 20 ∧ (∀ r ∈ rs3, r.v ≤ 31) ∧ ∀ z ∈ S3, z ≠ Str.ofString "yz") ?_ ?_
        · have stay : ∀ G, DM H G p l s m cs xs (rs2.map srV) ys (ms2.map mrV) → ∃ (rs3 : List SR) (xs3 : List V) (S3 : List Str), ([some (.ref p), some (.ref r), some (.bl ev), some (.ref s), some (.ref m), q5, q6, q7, q8, none] : L2.St) = [some (.ref p), some (.ref r), some (.bl ev), some (.ref s), some (.ref m), q5, q6, q7, q8, none] ∧
              DM H G p l s m cs xs3 (rs3.map srV) ys (ms2.map mrV) ∧ VarI ev rs ms S3 rs3 ms2 ∧ rs3.length ≤ 20 ∧ (∀ r ∈ rs3, r.v ≤ 31) ∧ ∀ z ∈ S3, z ≠ Str.ofString "yz" := fun G MG => ⟨rs2, xs, _, rfl, MG, V4', by omega, b4, fun z hz => yz z (F4 z hz)⟩
          walk_at "rd"
          refine r_take' M4.R.P (by decide) (by decide) (fun H5 d5 e5 P5 l5 u5 => ?_)
          have M5 := M4.take e5 P5
          have xl := M5.R.ts.len
          rw [List.length_map] at xl
          have hs5 := M5.R.hs
          walk_at "rd"
          refine it (fun h5 => ?_) (fun h5 => ?_)
          · walk_at "rd"
            refine it (fun h6 => ?_) (fun h6 => ?_)
            · walk_at "rd"
              refine r_take' M5.R.P (by omega) (by omega) (fun H6 d6 e6 P6 l6 u6 => ?_)
              have M6 := M5.take e6 P6
              walk_at "rd"
              refine r_take' M6.R.P (by decide) (by decide) (fun H7 d7 e7 P7 l7 u7 => ?_)
              have M7 := M6.take e7 P7
              walk_at "rd"
              refine ⟨by decide, fun t ht => R.gen ht fun H8 s8 h8 => ?_⟩
              have M8 := M7.same s8
              walk_at "rd"
              refine ⟨s, xs, d6, _, rfl, rfl, M8.R.hs, small1000 (by omega), l6, by omega, ?_⟩
              refine ⟨rs2.take d6.toNat ++ ⟨Str.ofString "zz", 1 + d7⟩ :: rs2.drop d6.toNat, xs.take d6.toNat ++ [.ref t] ++ xs.drop d6.toNat, Str.ofString "zz" :: wsOf rs2 ms2, rfl, ?_, ?_, ?_, fun q hq => ?_, fun z hz => ?_⟩
              · rw [← ins_map srV]
                exact M8.insS d6.toNat h8
              · exact (V4'.consS ⟨Str.ofString "zz", 1 + d7⟩ ⟨gzz, by show 1 ≤ 1 + d7; omega, by show 1 + d7 ≤ 100000; omega⟩ (fun z => zz _ (F4 _ z) rfl) (fun _ a ha e => absurd e (zz _ (fr a ha))) (fun _ a ha e => absurd e (zz _ (fm a ha)))).perm (perm_ins _ _ _) (List.Perm.refl _)
              · rw [(perm_ins rs2 d6.toNat _).length_eq, List.length_cons]; omega
              · rcases List.mem_cons.mp ((perm_ins rs2 d6.toNat _).mem_iff.mp hq) with rfl | h
                · show 1 + d7 ≤ 31; omega
                · exact b4 q h
              · rcases List.mem_cons.mp hz with rfl | h
                · decide
                · exact yz z (F4 z h)
            · walk_at "rd"
              exact stay _ M5
          · walk_at "rd"
            exact stay _ M5
        · clear M4
          rintro σ1 H5 ⟨rs3, xs3, S3, rfl, M5, V5, l5, b5, n5⟩
          walk_at "rd"
          refine R.cut (fun σ' H' => ∃ (ms3 : List MR) (ys3 : List V) (S4 : List Str), σ' = [some (.ref p), some (.ref r), some (.bl ev), some (.ref s), some (.ref m), q5, q6, q7, q8, none] ∧
            DM H H' p l s m cs xs3 (rs3.map srV) ys3 (ms3.map mrV) ∧ VarI ev rs ms S4 rs3 ms3 ∧ ms3.length ≤ 6) ?_ ?_
          · walk_at "rd"
            refine r_take' M5.R.P (by decide) (by decide) (fun H6 d6 e6 P6 l6 u6 => ?_)
            have M6 := M5.take e6 P6
            have yl := M6.tm.len
            rw [List.length_map] at yl
            have hm6 := M6.hm
            walk_at "rd"
            refine it (fun h7 => ?_) (fun h7 => ?_)
            · walk_at "rd"
              refine r_take' M6.R.P (by omega) (by omega) (fun H7 d7 e7 P7 l7 u7 => ?_)
              have M7 := M6.take e7 P7
              walk_at "rd"
              refine r_take' M7.R.P (by decide) (by decide) (fun H8 d8 e8 P8 l8 u8 => ?_)
              have M8 := M7.take e8 P8
              walk_at "rd"
              refine r_take' M8.R.P (by decide) (by decide) (fun H9 d9 e9 P9 l9 u9 => ?_)
              have M9 := M8.take e9 P9
              walk_at "rd"
              refine ⟨by decide, fun t ht => R.gen ht fun H10 s10 h10 => ?_⟩
              have M10 := M9.same s10
              walk_at "rd"
              refine ⟨m, ys, d7, _, rfl, rfl, M10.hm, small1000 (by omega), l7, by omega, ?_⟩
              refine ⟨ms2.take d7.toNat ++ ⟨Str.ofString "yz", 2 + d8, some (1 + d9), false, 1⟩ :: ms2.drop d7.toNat, ys.take d7.toNat ++ [.ref t] ++ ys.drop d7.toNat, Str.ofString "yz" :: S3, rfl, ?_, ?_, ?_⟩
              · rw [← ins_map mrV]
                exact M10.insM d7.toNat h10
              · refine (V5.consM ⟨Str.ofString "yz", 2 + d8, some (1 + d9), false, 1⟩ ⟨⟨gyz, by show 2 ≤ 2 + d8; omega, by show 2 + d8 ≤ 100000; omega, fun c hc => ?_, by show (0 : Int) ≤ 1; decide, by show 1 < 2 + d8; omega⟩, by show 2 + d8 ≤ 1001; omega, fun c hc => ?_⟩ (fun z => n5 _ z rfl) (fun h => nomatch h) (fun _ a ha e => absurd e (yz _ (fm a ha))) (fun _ a ha e => absurd e (yz _ (fr a ha)))).perm (List.Perm.refl _) (perm_ins _ _ _)
                · cases hc
                  refine ⟨by omega, by omega, ?_⟩
                  have : (1 + d9) * (2 + d8) ≤ 30 * (2 + d8) := Int.mul_le_mul_of_nonneg_right (by omega) (by omega)
                  show (1 + d9) * (2 + d8) + 1 ≤ 100000
                  omega
                · cases hc
                  omega
              · rw [(perm_ins ms2 d7.toNat _).length_eq, List.length_cons]; omega
            · walk_at "rd"
              exact ⟨ms2, ys, _, rfl, M6, V5, by omega⟩
          · clear M5
            rintro σ2 H6 ⟨ms3, ys3, S4, rfl, M6, V6, l6⟩
            have fin : ∀ (G : Hp) (s1 m1 : Addr) (xs1 ys1 : List V) (rs1 : List SR) (ms1 : List MR), PoolAt G p l → G s1 = some (.lst xs1) → TupsAt G xs1 (rs1.map srV) → G m1 = some (.lst ys1) → TupsAt G ys1 (ms1.map mrV) → rs1.Perm rs3 → ms1.Perm ms3 →
                ∀ (t : Addr) (G' : Hp), SameBut p H G' → PoolAt G' p l → (∀ a o, G a = some o → a ≠ p → a ≠ t → G' a = some o) → G t = some (.dK []) → G' t = some (.dK (rowsKs s1 m1)) → Q (.ref t) G' := fun G s1 m1 xs1 ys1 rs1 ms1 g2 g3 g4 g5 g6 g7 g8 t G' k1 k2 k3 nt k4 => by
              have V7 := V6.perm g7 g8
              obtain ⟨⟨_, _, _, _, hpG, _⟩, _⟩ := id g2
              have kt : TupKeep G G' := fun a x h => k3 _ _ h (ne_of h hpG (by intro z; cases z)) (ne_of h nt (by intro z; cases z))
              exact k G' t rs1 ms1 k1 k2 ⟨s1, m1, xs1, ys1, k4, k3 _ _ g3 (tups_ne g2 g3 g4) (ne_of g3 nt (by intro z; cases z)), g4.keep kt, k3 _ _ g5 (tups_ne g2 g5 g6) (ne_of g5 nt (by intro z; cases z)), g6.keep kt⟩
                (V7.good (by rw [g7.length_eq]; omega) (by rw [g8.length_eq]; omega)) V7.gm (fun r hr => b5 r (g7.mem_iff.mp hr)) fun he => ⟨V7.eS he, V7.eM he, V7.xS he, V7.xM he⟩
            refine R.cut (fun σ' H' => σ' = [some (.ref p), some (.ref r), some (.bl ev), some (.ref s), some (.ref m), q5, q6, q7, q8, none] ∧ DM H H' p l s m cs xs3 (rs3.map srV) ys3 (ms3.map mrV)) ?_ ?_
            · walk_at "rd"
              refine r_take' M6.R.P (by decide) (by decide) (fun H7 d7 e7 P7 l7 u7 => ?_)
              have M7 := M6.take e7 P7
              walk_at "rd"
              refine it (fun h8 => ?_) (fun h8 => ?_)
              · walk_at "rd"
                refine disp fun t ht => R.gen ht fun H8 s8 ht8 => ?_
                have M8 := M7.same s8
                unfold tPairs
                walk_at "rd"
                refine ⟨s, xs3, rfl, SqL.of M8.R.hs, fun s1 hs1 => R.gen hs1 fun H9 s9 h9 => ?_⟩
                have M9 := M8.same s9
                have ht9 := s9 _ _ ht8
                unfold tPairs
                walk_at "rd"
                refine ⟨m, ys3, rfl, SqL.of M9.hm, fun m1 hm1 => R.gen hm1 fun H10 s10 h10 => ?_⟩
                have M10 := M9.same s10
                have ht10 := s10 _ _ ht9
                unfold tPairs
                refine ⟨ht10, rowsKs s1 m1, rfl, by show 2 ≤ 15; decide, ?_⟩
                rw [rowsMerge]
                obtain ⟨tp, tl⟩ := M7.R.P.nep ht
                refine fin H10 s1 m1 _ _ rs3.reverse ms3.reverse M10.R.P (s10 _ _ h9) ?_ h10 ?_ (List.reverse_perm _) (List.reverse_perm _) t _ (M10.R.sb.put' (M7.R.nil0 ht)) (M10.R.P.put tp tl) (fun a o h _ h2 => by rw [upd_ne h2]; exact h) ht10 upd_same
                · rw [List.map_reverse]; exact M10.R.ts.revA
                · rw [List.map_reverse]; exact M10.tm.revA
              · walk_at "rd"
                exact ⟨rfl, M7⟩
            · clear M6
              rintro σ3 H7 ⟨rfl, M7⟩
              walk_at "rd"
              refine disp fun t ht => R.gen ht fun H8 s8 ht8 => ?_
              have M8 := M7.same s8
              unfold tPairs
              walk_at "rd"
              unfold tPairs
              walk_at "rd"
              unfold tPairs
              refine ⟨ht8, rowsKs s m, rfl, by show 2 ≤ 15; decide, ?_⟩
              rw [rowsMerge]
              obtain ⟨tp, tl⟩ := M7.R.P.nep ht
              exact fin H8 s m _ _ rs3 ms3 M8.R.P M8.R.hs M8.R.ts M8.hm M8.tm (List.Perm.refl _) (List.Perm.refl _) t _ (M8.R.sb.put' (M7.R.nil0 ht)) (M8.R.P.put tp tl) (fun a o h _ h2 => by rw [upd_ne h2]; exact h) ht8 upd_same
end
end KN
end
section
set_option Elab.async false
set_option linter.all false
set_option maxRecDepth 100000
set_option maxHeartbeats 4000000
set_option pp.maxSteps 1500
set_option pp.deepTerms false
local macro_rules | `(tactic| walk_at "ne") => `(tactic| first
  | assumption | (apply Ne.symm; assumption)
  | exact R.ne_new (by assumption) | exact (R.ne_new (by assumption)).symm
  | exact L2.ne_of_none (by assumption) (by assumption) | exact (L2.ne_of_none (by assumption) (by assumption)).symm
  | exact L2.ne_of_none (by assumption) (R.free_new (by assumption)) | exact (L2.ne_of_none (by assumption) (R.free_new (by assumption))).symm)
local macro_rules | `(tactic| walk_at "at") => `(tactic| first
  | assumption | exact L2.upd_same
  | (refine R.sb (H := ?H) (p := ?p) ?e ?n ?h; (case e => assumption); (case n => walk_at "ne"); (case h => walk_at "at"))
  | (refine R.sm (H := ?H) ?e ?h; (case e => assumption); (case h => walk_at "at"))
  | (refine Eq.trans (L2.upd_ne ?_) ?_ <;> first | walk_at "ne" | walk_at "at"))
local macro_rules | `(tactic| walk_at "sqt") => `(tactic| first | assumption | (refine L2.SqT.of ?_; walk_at "at"))
local macro_rules | `(tactic| walk_at "ty") => `(tactic| first | exact R.tyN | exact R.tyB | exact R.tyI | exact R.tyS | (refine R.tyT (xs := ?xs) ?h; case h => walk_at "at") | (refine R.tyL (xs := ?xs) ?h; case h => walk_at "at"))
local macro_rules | `(tactic| walk_at "kit") => `(tactic| first | exact R.kit_NoneType_tuple | exact R.kit_NoneType_list | exact R.kit_NoneType_bool | exact R.kit_NoneType_str | exact R.kit_NoneType_int | exact R.kit_bool_tuple | exact R.kit_bool_list | exact R.kit_bool_bool | exact R.kit_bool_str | exact R.kit_bool_int | exact R.kit_int_tuple | exact R.kit_int_list | exact R.kit_int_bool | exact R.kit_int_str | exact R.kit_int_int | exact R.kit_str_tuple | exact R.kit_str_list | exact R.kit_str_bool | exact R.kit_str_str | exact R.kit_str_int | exact R.kit_tuple_tuple | exact R.kit_tuple_list | exact R.kit_tuple_bool | exact R.kit_tuple_str | exact R.kit_tuple_int | exact R.kit_list_tuple | exact R.kit_list_list | exact R.kit_list_bool | exact R.kit_list_str | exact R.kit_list_int)
local macro_rules | `(tactic| walk_at "sz") => `(tactic| first | assumption | (refine Nat.le_trans ?_ (show 1000 ≤ PySem.sizeLine by decide); omega) | decide)
local macro_rules | `(tactic| walk_at "szl") => `(tactic| first | assumption | exact Nat.le_of_lt (L2.small1000 (by omega)) | decide | decide +kernel)
local macro_rules | `(tactic| walk_at "sys") => `(tactic| first | assumption | exact KN.SysAt.same (by assumption) (by assumption))
local macro_rules | `(tactic| walk_at "dk") => `(tactic| first | exact R.rowsS _ _ | exact R.rowsM _ _)
local macro_rules | `(tactic| walk_at "sqa") => `(tactic| first | assumption | exact R.SeqA.same (by assumption) (by assumption) | exact R.SeqA.new (by assumption) (by assumption) | (exact Or.inl (by walk_at "at")) | (exact Or.inr (by walk_at "at")))
local macro_rules | `(tactic| walk_at "ix") => `(tactic| first | rfl | (exact L2.atI_nat (by assumption)) | assumption)
local macro_rules | `(tactic| walk_at "cond") => `(tactic| first
  | exact Or.inl (by decide) | exact Or.inr (by decide) | exact Or.inl ⟨by omega, by omega⟩ | exact Or.inr ⟨by omega, by omega⟩
  | (constructor <;> omega) | (show _ ≠ _; omega) | decide | omega)
local macro_rules | `(tactic| walk_at "r1") => `(tactic| first
  | ((with_reducible refine R.var (v := ?v) ?h ?q); case h => rfl)
  | with_reducible apply R.cons
  | with_reducible apply R.c
  | with_reducible apply R.nil
  | with_reducible apply R.op
  | with_reducible apply R.gname
  | with_reducible apply R.seq
  | with_reducible apply R.call
  | with_reducible apply R.asg
  | with_reducible apply R.ex
  | with_reducible apply R.tst
  | with_reducible apply R.i0
  | with_reducible apply R.ifs
  | with_reducible apply R.ret
  | with_reducible apply R.retN
  | with_reducible apply R.drop
  | with_reducible apply R.next
  | with_reducible apply R.tb_
  | with_reducible apply R.eqI
  | with_reducible apply R.neI
  | ((with_reducible refine R.ic ?_ ?_); · walk_at "cond")
  | with_reducible apply R.u0
  | with_reducible apply R.un
  | ((with_reducible refine R.eq ?_ ?_); · rfl)
  | ((with_reducible refine R.ne ?_ ?_); · rfl)
  | with_reducible apply R.and_
  | with_reducible apply R.or_
  | with_reducible apply R.not_
  | with_reducible apply R.ife
  | with_reducible apply R.chain
  | with_reducible apply R.cb
  | with_reducible apply R.bm
  | with_reducible apply R.gsub
  | with_reducible apply R.gnil
  | with_reducible apply R.gcons
  | with_reducible apply R.yes
  | with_reducible apply R.int1
  | ((with_reducible refine R.lenL (xs := ?xs) ?h ?q); case h => walk_at "at")
  | ((with_reducible refine R.ixL (xs := ?xs) (v := ?v) ?h ?e ?q); (case h => walk_at "at"); (case e => walk_at "ix"))
  | ((with_reducible refine R.setL (xs := ?xs) (n := ?n) ?h ?e ?q); (case h => walk_at "at"); (case e => rfl))
  | ((with_reducible refine R.append (xs := ?xs) ?h ?e ?q); (case h => walk_at "at"); (case e => walk_at "cond"))
  | with_reducible apply R.is_
  | with_reducible apply R.isnot
  | with_reducible apply R.andV
  | with_reducible apply R.orV
  | with_reducible apply R.notV
  | ((with_reducible refine R.isi (s := ?s) (b := ?b) ?ty ?h ?q); (case ty => walk_at "ty"); (case h => walk_at "kit"))
  | ((with_reducible refine R.addS ?h ?q); (case h => walk_at "sz"))
  | with_reducible apply R.max2
  | with_reducible apply R.min2
  | ((with_reducible refine R.lenStr ?h ?q); (case h => walk_at "szl"))
  | ((with_reducible refine R.ixS (n := ?n) ?h ?e ?q); (case h => walk_at "szl"); (case e => walk_at "ix"))
  | ((with_reducible refine R.tyl (xs := ?xs) ?h ?q); (case h => walk_at "at"))
  | with_reducible apply R.itlist
  | with_reducible apply R.ittup
  | with_reducible apply R.m1
  | with_reducible apply R.m1s
  | with_reducible apply R.leS
  | with_reducible apply R.itstr
  | with_reducible apply R.itstrE
  | with_reducible apply R.lc
  | with_reducible apply R.lc2
  | with_reducible apply R.ckw
  | with_reducible apply R.par
  | with_reducible apply R.parE
  | with_reducible apply R.itrev
  | with_reducible apply R.dsetd
  | with_reducible apply R.dnotin_
  | with_reducible apply R.for_
  | ((with_reducible refine R.all_ (bs := ?bs) ?h ?q); (case h => walk_at "at"))
  | with_reducible apply R.rng1
  | ((with_reducible refine R.rngE ?h ?q); (case h => (constructor <;> omega)))
  | ((with_reducible refine R.lenT (xs := ?xs) ?h ?q); (case h => walk_at "sqt"))
  | ((with_reducible refine R.ixT (xs := ?xs) (v := ?v) ?h ?e ?q); (case h => walk_at "sqt"); (case e => walk_at "ix"))
  | ((refine R.itlE (xs := ?xs) ?h ?q); (case h => walk_at "at"))
  | ((refine R.ittE (xs := ?xs) ?h ?q); (case h => walk_at "at"))
  | ((refine R.gseq (xs := ?xs) ?h ?e ?q); (case h => walk_at "sqa"); (case e => rfl))
  | ((refine R.ixA (xs := ?xs) (v := ?v) ?h ?e ?q); (case h => walk_at "sqa"); (case e => walk_at "ix"))
  | ((refine R.lenA (xs := ?xs) ?h ?q); (case h => walk_at "sqa"))
  | ((with_reducible refine R.gtup (xs := ?xs) ?h ?e ?q); (case h => walk_at "sqt"); (case e => rfl))
  | with_reducible apply R.din_
  | with_reducible apply R.dput_
  | with_reducible apply R.dget2_
  | ((with_reducible refine R.aug_ (x := ?x) ?h ?q); case h => rfl)
  | with_reducible apply R.ipI_
  | with_reducible apply R.rng2
  | ((with_reducible refine R.rngE2 ?h ?q); (case h => (refine ⟨?_, ?_, ?_, ?_⟩ <;> omega)))
  | with_reducible apply R.brk
  | with_reducible apply R.intB
  | with_reducible apply R.meth_
  | ((refine KN.methS (rs := ?rs) (ms := ?ms) ?h (fun _ _ _ _ => rfl) ?q); case h => walk_at "sys")
  | with_reducible apply R.sl_
  | with_reducible apply R.np_
  | with_reducible apply R.pt_
  | with_reducible apply R.ptE
  | with_reducible apply R.dget_
  | with_reducible apply R.revL_
  | ((refine R.dgetS (kvs := ?kvs) (v := ?v) ?h ?e ?q); (case h => walk_at "at"); (case e => walk_at "dk"))
  | with_reducible apply R.sfld
  | with_reducible apply R.fld_
  | with_reducible apply R.dc
  | with_reducible apply R.dget1_
  | with_reducible apply R.itseq
  | with_reducible apply R.itenum
  | with_reducible apply R.itT
  | with_reducible apply R.itF
  | with_reducible apply R.itNT
  | with_reducible apply R.itNF
  | (with_reducible apply R.tup)
  | (with_reducible apply R.lst))
local macro_rules | `(tactic| walk_at "rd") => `(tactic| (repeat (first | walk_at "r1" | (dsimp only [Int.reduceToNat, List.set_cons_succ, List.set_cons_zero, List.length_cons, List.length_nil, List.nil_append, List.cons_append, List.append_nil]))))
local macro_rules | `(tactic| walk_at "go") => `(tactic| (rw [R.start_eq]; dsimp only [R.startE, List.map_nil]; walk_at "rd"))
local macro_rules | `(tactic| walk_at "r1") => `(tactic| first | with_reducible apply R.callN | with_reducible apply R.tr_ | with_reducible apply R.rng3 | with_reducible apply R.bits | with_reducible apply R.dnewT)
-- RTX
namespace KN
open PySem L2 SX R
open C8 (Cal Def cal0 pe_c pe_gc fnScope fnBody pss_cut Met pe_mt pe_mt0)
section
variable {P : Program} {w : World} {K : PySem.W.Frag} {mg : Str → Option Value} {base : Heap}
abbrev sLwords : Stmt := top 43
theorem scLwords : FnScope ["rows", "row"] ["rows"] (fnScope sLwords) := ⟨rfl, rfl, rfl, by decide +kernel, rfl, by decide +kernel, by decide +kernel⟩
def spLwords : Sp := fun vs H Q _ => ∃ (r : Addr) (rs : List SR) (ms : List MR), vs = [.ref r] ∧ RowsAt H r rs ms ∧ rs.length ≤ 24 ∧ ms.length ≤ 6 ∧ ∀ H' a, Same H H' → H a = none → H' a = some (.lst ((wsOf rs ms).map V.str)) → Q (.ref a) H'
theorem TupsAt.app {H : Hp} : ∀ {xs ds ys es}, TupsAt H xs ds → TupsAt H ys es → TupsAt H (xs ++ ys) (ds ++ es)
  | _, _, _, _, .nil, h => h
  | _, _, _, _, .cons a t, h => .cons a (TupsAt.app t h)
theorem c_lwords (Z : Zs mg) {f : Addr} {fd : FuncData} (F : Def K mg "_law_words" sLwords f fd) (b : Binds K fd ["rows"] []) : Cal P w K mg base 1 "_law_words" spLwords [] := by
  refine cal0 F b .nil scLwords (fun vs H Q E h => ?_) (fun cdv A outer s H vs Q E hr h => ?_)
  · obtain ⟨r, rs, ms, rfl, _⟩ := h
    rfl
  · obtain ⟨r, rs, ms, rfl, hR, sl, ml, k⟩ := h
    refine ⟨_, pss_one (ps_ret (pe_lc (own := [("row", 1)]) (g := gName 1) (tt := tYes) rfl scLwords.nd (kiL K (pe_op op_cat (pe_dget (hu_of hr) (pv 0) pe_str (fun _ _ => rfl)) (pe_dget (hu_of hr) (pv 0) pe_str (fun _ _ => rfl)))) (blkOk_by (own := [("row", 1)]) (N := ["rows", "row"]) (sc := fnScope sLwords) (by decide +kernel)) (fun _ _ _ _ _ => (pg_name (i := 1) scLwords.nd rfl (Or.inl rfl))) (fun _ _ _ _ _ => pts_nil) (fun _ _ _ _ _ => pe_ix (kIxT K) (pv 1) pe_int (fun _ _ => rfl)))), ?_⟩
    obtain ⟨s, m, xs, ys, hr0, hs, hts, hm, htm⟩ := id hR
    have lx := hts.len
    have ly := htm.len
    rw [List.length_map] at lx ly
    walk_at "go"
    refine R.catL hs hm (Nat.le_of_lt (small1000 (by omega))) fun c hc => R.gen hc fun H1 s1 h1 => ?_
    have T1 := TupsAt.app (hts.keep fun a x h => s1 _ _ h) (htm.keep fun a x h => s1 _ _ h)
    walk_at "rd"
    intro D hD
    have D0 : H D = none := by
      cases z : H D with
      | none => rfl
      | some o => have := s1 _ _ z; rw [hD] at this; cases this
    have e0 : (rs.map srV ++ ms.map mrV).map (fun d => d.head?.getD .non) = (wsOf rs ms).map V.str := by
      unfold wsOf
      rw [List.map_append, List.map_append, List.map_map, List.map_map, List.map_map, List.map_map]
      rfl
    have hl : (rs.map srV ++ ms.map mrV).length = rs.length + ms.length := by rw [List.length_append, List.length_map, List.length_map]
    have hh : ∀ d ∈ rs.map srV ++ ms.map mrV, ∃ z tl, d = .str z :: tl := fun d hd => by
      rcases List.mem_append.mp hd with h | h
      · obtain ⟨r, _, rfl⟩ := List.mem_map.mp h; exact ⟨_, _, rfl⟩
      · obtain ⟨r, _, rfl⟩ := List.mem_map.mp h; exact ⟨_, _, rfl⟩
    generalize rs.map srV ++ ms.map mrV = ds at T1 e0 hl hh
    have lt := T1.len
    refine lc_it (walk_list (K := K) (a := c) (xs := xs ++ ys)) (fun i H' => Same H1 H' ∧ H' D = some (.lst ((ds.take i).map fun d => d.head?.getD .non))) ⟨same_new (Same.refl _) hD, upd_same⟩ (fun i H' _ hh => SqL.of (hh.1 _ _ h1)) ?_ ?_
    · rintro i u H2 H2' hi ⟨s2, h2⟩ ⟨rfl, hu⟩
      have hri : ds[i]? = some ds[i] := List.getElem?_eq_getElem (by omega)
      obtain ⟨b, hya, hb⟩ := T1.get i _ hri
      rw [hya] at hu
      cases hu
      have et : ds.take (i + 1) = ds.take i ++ [ds[i]] := by rw [List.take_add_one, hri]; rfl
      obtain ⟨z, tl, ez⟩ := hh _ (List.getElem_mem (show i < ds.length by omega))
      rw [et, List.map_append]
      rw [ez] at hb ⊢
      have hb2 := s2 _ _ hb
      have hat : atI (V.str z :: tl) ((0 : Nat) : Int) = some (.str z) := atI_nat rfl
      refine R.gname ⟨rfl, ?_⟩
      walk_at "rd"
      exact ⟨_, h2, by rw [List.length_map, List.length_take]; exact small1000 (by omega), same_put s2 hD, upd_same⟩
    · rintro H2 ⟨s2, h2⟩
      rw [List.take_of_length_le (by omega), e0] at h2
      walk_at "rd"
      exact k H2 D (s1.trans s2) D0 h2
end
end KN
end
section
set_option Elab.async false
set_option linter.all false
set_option maxRecDepth 100000
set_option maxHeartbeats 4000000
set_option pp.maxSteps 1500
set_option pp.deepTerms false
local macro_rules | `(tactic| walk_at "ne") => `(tactic| first
  | assumption | (apply Ne.symm; assumption)
  | exact R.ne_new (by assumption) | exact (R.ne_new (by assumption)).symm
  | exact L2.ne_of_none (by assumption) (by assumption) | exact (L2.ne_of_none (by assumption) (by assumption)).symm
  | exact L2.ne_of_none (by assumption) (R.free_new (by assumption)) | exact (L2.ne_of_none (by assumption) (R.free_new (by assumption))).symm)
local macro_rules | `(tactic| walk_at "at") => `(tactic| first
  | assumption | exact L2.upd_same
  | (refine R.sb (H := ?H) (p := ?p) ?e ?n ?h; (case e => assumption); (case n => walk_at "ne"); (case h => walk_at "at"))
  | (refine R.sm (H := ?H) ?e ?h; (case e => assumption); (case h => walk_at "at"))
  | (refine Eq.trans (L2.upd_ne ?_) ?_ <;> first | walk_at "ne" | walk_at "at"))
local macro_rules | `(tactic| walk_at "sqt") => `(tactic| first | assumption | (refine L2.SqT.of ?_; walk_at "at"))
local macro_rules | `(tactic| walk_at "ty") => `(tactic| first | exact R.tyN | exact R.tyB | exact R.tyI | exact R.tyS | (refine R.tyT (xs := ?xs) ?h; case h => walk_at "at") | (refine R.tyL (xs := ?xs) ?h; case h => walk_at "at"))
local macro_rules | `(tactic| walk_at "kit") => `(tactic| first | exact R.kit_NoneType_tuple | exact R.kit_NoneType_list | exact R.kit_NoneType_bool | exact R.kit_NoneType_str | exact R.kit_NoneType_int | exact R.kit_bool_tuple | exact R.kit_bool_list | exact R.kit_bool_bool | exact R.kit_bool_str | exact R.kit_bool_int | exact R.kit_int_tuple | exact R.kit_int_list | exact R.kit_int_bool | exact R.kit_int_str | exact R.kit_int_int | exact R.kit_str_tuple | exact R.kit_str_list | exact R.kit_str_bool | exact R.kit_str_str | exact R.kit_str_int | exact R.kit_tuple_tuple | exact R.kit_tuple_list | exact R.kit_tuple_bool | exact R.kit_tuple_str | exact R.kit_tuple_int | exact R.kit_list_tuple | exact R.kit_list_list | exact R.kit_list_bool | exact R.kit_list_str | exact R.kit_list_int)
local macro_rules | `(tactic| walk_at "sz") => `(tactic| first | assumption | (refine Nat.le_trans ?_ (show 1000 ≤ PySem.sizeLine by decide); omega) | decide)
local macro_rules | `(tactic| walk_at "szl") => `(tactic| first | assumption | exact Nat.le_of_lt (L2.small1000 (by omega)) | decide | decide +kernel)
local macro_rules | `(tactic| walk_at "sys") => `(tactic| first | assumption | exact KN.SysAt.same (by assumption) (by assumption))
local macro_rules | `(tactic| walk_at "dk") => `(tactic| first | exact R.rowsS _ _ | exact R.rowsM _ _)
local macro_rules | `(tactic| walk_at "sqa") => `(tactic| first | assumption | exact R.SeqA.same (by assumption) (by assumption) | exact R.SeqA.new (by assumption) (by assumption) | (exact Or.inl (by walk_at "at")) | (exact Or.inr (by walk_at "at")))
local macro_rules | `(tactic| walk_at "ix") => `(tactic| first | rfl | (exact L2.atI_nat (by assumption)) | assumption)
local macro_rules | `(tactic| walk_at "cond") => `(tactic| first
  | exact Or.inl (by decide) | exact Or.inr (by decide) | exact Or.inl ⟨by omega, by omega⟩ | exact Or.inr ⟨by omega, by omega⟩
  | (constructor <;> omega) | (show _ ≠ _; omega) | decide | omega)
local macro_rules | `(tactic| walk_at "r1") => `(tactic| first
  | ((with_reducible refine R.var (v := ?v) ?h ?q); case h => rfl)
  | with_reducible apply R.cons
  | with_reducible apply R.c
  | with_reducible apply R.nil
  | with_reducible apply R.op
  | with_reducible apply R.gname
  | with_reducible apply R.seq
  | with_reducible apply R.call
  | with_reducible apply R.asg
  | with_reducible apply R.ex
  | with_reducible apply R.tst
  | with_reducible apply R.i0
  | with_reducible apply R.ifs
  | with_reducible apply R.ret
  | with_reducible apply R.retN
  | with_reducible apply R.drop
  | with_reducible apply R.next
  | with_reducible apply R.tb_
  | with_reducible apply R.eqI
  | with_reducible apply R.neI
  | ((with_reducible refine R.ic ?_ ?_); · walk_at "cond")
  | with_reducible apply R.u0
  | with_reducible apply R.un
  | ((with_reducible refine R.eq ?_ ?_); · rfl)
  | ((with_reducible refine R.ne ?_ ?_); · rfl)
  | with_reducible apply R.and_
  | with_reducible apply R.or_
  | with_reducible apply R.not_
  | with_reducible apply R.ife
  | with_reducible apply R.chain
  | with_reducible apply R.cb
  | with_reducible apply R.bm
  | with_reducible apply R.gsub
  | with_reducible apply R.gnil
  | with_reducible apply R.gcons
  | with_reducible apply R.yes
  | with_reducible apply R.int1
  | ((with_reducible refine R.lenL (xs := ?xs) ?h ?q); case h => walk_at "at")
  | ((with_reducible refine R.ixL (xs := ?xs) (v := ?v) ?h ?e ?q); (case h => walk_at "at"); (case e => walk_at "ix"))
  | ((with_reducible refine R.setL (xs := ?xs) (n := ?n) ?h ?e ?q); (case h => walk_at "at"); (case e => rfl))
  | ((with_reducible refine R.append (xs := ?xs) ?h ?e ?q); (case h => walk_at "at"); (case e => walk_at "cond"))
  | with_reducible apply R.is_
  | with_reducible apply R.isnot
  | with_reducible apply R.andV
  | with_reducible apply R.orV
  | with_reducible apply R.notV
  | ((with_reducible refine R.isi (s := ?s) (b := ?b) ?ty ?h ?q); (case ty => walk_at "ty"); (case h => walk_at "kit"))
  | ((with_reducible refine R.addS ?h ?q); (case h => walk_at "sz"))
  | with_reducible apply R.max2
  | with_reducible apply R.min2
  | ((with_reducible refine R.lenStr ?h ?q); (case h => walk_at "szl"))
  | ((with_reducible refine R.ixS (n := ?n) ?h ?e ?q); (case h => walk_at "szl"); (case e => walk_at "ix"))
  | ((with_reducible refine R.tyl (xs := ?xs) ?h ?q); (case h => walk_at "at"))
  | with_reducible apply R.itlist
  | with_reducible apply R.ittup
  | with_reducible apply R.m1
  | with_reducible apply R.m1s
  | with_reducible apply R.leS
  | with_reducible apply R.itstr
  | with_reducible apply R.itstrE
  | with_reducible apply R.lc
  | with_reducible apply R.lc2
  | with_reducible apply R.ckw
  | with_reducible apply R.par
  | with_reducible apply R.parE
  | with_reducible apply R.itrev
  | with_reducible apply R.dsetd
  | with_reducible apply R.dnotin_
  | with_reducible apply R.for_
  | ((with_reducible refine R.all_ (bs := ?bs) ?h ?q); (case h => walk_at "at"))
  | with_reducible apply R.rng1
  | ((with_reducible refine R.rngE ?h ?q); (case h => (constructor <;> omega)))
  | ((with_reducible refine R.lenT (xs := ?xs) ?h ?q); (case h => walk_at "sqt"))
  | ((with_reducible refine R.ixT (xs := ?xs) (v := ?v) ?h ?e ?q); (case h => walk_at "sqt"); (case e => walk_at "ix"))
  | ((refine R.itlE (xs := ?xs) ?h ?q); (case h => walk_at "at"))
  | ((refine R.ittE (xs := ?xs) ?h ?q); (case h => walk_at "at"))
  | ((refine R.gseq (xs := ?xs) ?h ?e ?q); (case h => walk_at "sqa"); (case e => rfl))
  | ((refine R.ixA (xs := ?xs) (v := ?v) ?h ?e ?q); (case h => walk_at "sqa"); (case e => walk_at "ix"))
  | ((refine R.lenA (xs := ?xs) ?h ?q); (case h => walk_at "sqa"))
  | ((with_reducible refine R.gtup (xs := ?xs) ?h ?e ?q); (case h => walk_at "sqt"); (case e => rfl))
  | with_reducible apply R.din_
  | with_reducible apply R.dput_
  | with_reducible apply R.dget2_
  | ((with_reducible refine R.aug_ (x := ?x) ?h ?q); case h => rfl)
  | with_reducible apply R.ipI_
  | with_reducible apply R.rng2
  | ((with_reducible refine R.rngE2 ?h ?q); (case h => (refine ⟨?_, ?_, ?_, ?_⟩ <;> omega)))
  | with_reducible apply R.brk
  | with_reducible apply R.intB
  | with_reducible apply R.meth_
  | ((refine KN.methS (rs := ?rs) (ms := ?ms) ?h (fun _ _ _ _ => rfl) ?q); case h => walk_at "sys")
  | with_reducible apply R.sl_
  | with_reducible apply R.np_
  | with_reducible apply R.pt_
  | with_reducible apply R.ptE
  | with_reducible apply R.dget_
  | with_reducible apply R.revL_
  | ((refine R.dgetS (kvs := ?kvs) (v := ?v) ?h ?e ?q); (case h => walk_at "at"); (case e => walk_at "dk"))
  | with_reducible apply R.sfld
  | with_reducible apply R.fld_
  | with_reducible apply R.dc
  | with_reducible apply R.dget1_
  | with_reducible apply R.itseq
  | with_reducible apply R.itenum
  | with_reducible apply R.itT
  | with_reducible apply R.itF
  | with_reducible apply R.itNT
  | with_reducible apply R.itNF
  | (with_reducible apply R.tup)
  | (with_reducible apply R.lst))
local macro_rules | `(tactic| walk_at "rd") => `(tactic| (repeat (first | walk_at "r1" | (dsimp only [Int.reduceToNat, List.set_cons_succ, List.set_cons_zero, List.length_cons, List.length_nil, List.nil_append, List.cons_append, List.append_nil]))))
local macro_rules | `(tactic| walk_at "go") => `(tactic| (rw [R.start_eq]; dsimp only [R.startE, List.map_nil]; walk_at "rd"))
local macro_rules | `(tactic| walk_at "r1") => `(tactic| first | with_reducible apply R.callN | with_reducible apply R.tr_ | with_reducible apply R.rng3 | with_reducible apply R.bits | with_reducible apply R.dnewT)
-- RTX
namespace KN
open PySem L2 SX R
open C8 (Cal Def cal0 pe_c pe_gc fnScope fnBody pss_cut Met pe_mt pe_mt0)
section
/-! what two systems define differently -/
def svL (rs : List SR) (z : Str) : Option Int := (rs.find? fun r => decide (r.w = z)).map (·.v)
def mvL (ms : List MR) (z : Str) : Option MR := ms.find? fun r => decide (r.w = z)
/-- the kind of a word (a multiplier?) and its value -/
def kindL (rs : List SR) (ms : List MR) (z : Str) : Option (Bool × Int) := match mvL ms z with
  | some m => some (true, m.v)
  | none => (svL rs z).map fun v => (false, v)
def oddB (rs : List SR) (ms : List MR) (rs' : List SR) (ms' : List MR) (z : Str) : Bool := match kindL rs ms z, kindL rs' ms' z with
  | some a, some b => !(decide (a = b))
  | _, _ => false
def oddF (rs : List SR) (ms : List MR) (rs' : List SR) (ms' : List MR) : Option Str := (wsOf rs ms).find? (oddB rs ms rs' ms')
theorem svL_mem {rs : List SR} (nd : (rs.map (·.w)).Nodup) {r : SR} (h : r ∈ rs) : svL rs r.w = some r.v := by
  unfold svL
  cases e : rs.find? fun q => decide (q.w = r.w) with
  | none =>
    have := List.find?_eq_none.mp e r h
    exact absurd (decide_eq_true rfl) this
  | some q =>
    have h1 := List.find?_some e
    have h2 := List.mem_of_find?_eq_some e
    rw [nd_inj nd h2 h (of_decide_eq_true h1)]
    rfl
theorem mvL_mem {ms : List MR} (nd : (ms.map (·.w)).Nodup) {m : MR} (h : m ∈ ms) : mvL ms m.w = some m := by
  unfold mvL
  cases e : ms.find? fun q => decide (q.w = m.w) with
  | none =>
    have := List.find?_eq_none.mp e m h
    exact absurd (decide_eq_true rfl) this
  | some q =>
    have h1 := List.find?_some e
    have h2 := List.mem_of_find?_eq_some e
    rw [nd_inj nd h2 h (of_decide_eq_true h1)]
theorem svL_none {rs : List SR} {z : Str} : svL rs z = none ↔ ∀ r ∈ rs, r.w ≠ z := by
  unfold svL
  rw [Option.map_eq_none_iff, List.find?_eq_none]
  exact ⟨fun h r hr e => h r hr (decide_eq_true e), fun h r hr e => h r hr (of_decide_eq_true e)⟩
theorem mvL_none {ms : List MR} {z : Str} : mvL ms z = none ↔ ∀ m ∈ ms, m.w ≠ z := by
  unfold mvL
  rw [List.find?_eq_none]
  exact ⟨fun h r hr e => h r hr (decide_eq_true e), fun h r hr e => h r hr (of_decide_eq_true e)⟩
theorem mvL_some {ms : List MR} {z : Str} {m : MR} (h : mvL ms z = some m) : m ∈ ms ∧ m.w = z := by
  unfold mvL at h
  exact ⟨List.mem_of_find?_eq_some h, of_decide_eq_true (List.find?_some (p := fun r : MR => decide (r.w = z)) h)⟩
section
variable {rs rs' : List SR} {ms ms' : List MR}
theorem kind_s (g : GoodSys rs ms) {r : SR} (h : r ∈ rs) : kindL rs ms r.w = some (false, r.v) := by
  obtain ⟨n1, n2, n3⟩ := List.nodup_append.mp g.nd
  unfold kindL
  rw [mvL_none.mpr (fun m hm e => n3 _ (List.mem_map.mpr ⟨r, h, rfl⟩) _ (List.mem_map.mpr ⟨m, hm, rfl⟩) e.symm), svL_mem n1 h]
  rfl
theorem kind_m (g : GoodSys rs ms) {m : MR} (h : m ∈ ms) : kindL rs ms m.w = some (true, m.v) := by
  obtain ⟨n1, n2, n3⟩ := List.nodup_append.mp g.nd
  unfold kindL
  rw [mvL_mem n2 h]
/-- one of them has both kinds apart -/
theorem kind_apart (g : GoodSys rs ms) (z : Str) : svL rs z = none ∨ mvL ms z = none := by
  obtain ⟨n1, n2, n3⟩ := List.nodup_append.mp g.nd
  cases h : mvL ms z with
  | none => exact .inr rfl
  | some m =>
    obtain ⟨h1, h2⟩ := mvL_some h
    exact .inl (svL_none.mpr fun r hr e => n3 _ (List.mem_map.mpr ⟨r, hr, rfl⟩) _ (List.mem_map.mpr ⟨m, h1, rfl⟩) (e.trans h2.symm))
end
theorem svOf_eq (rs : List SR) (z : Str) : svOf rs z = match svL rs z with | some v => .int v | none => .non := by
  unfold svOf svL
  induction rs with
  | nil => rfl
  | cons r rs ih =>
    rw [List.map_cons]
    by_cases h : r.w = z
    · subst h
      rw [valV_pos (by rfl)]
      rw [List.find?_cons_of_pos (by exact decide_eq_true rfl)]
      rfl
    · rw [valV_neg (fun e => h (Sum.inr.inj e)), List.find?_cons_of_neg (by exact fun e => h (of_decide_eq_true e))]
      exact ih
variable {P : Program} {w : World} {K : PySem.W.Frag} {mg : Str → Option Value} {base : Heap}
abbrev sLkin : Stmt := top 48
theorem scLkin : FnScope ["rows", "found", "word", "value", "row"] ["rows"] (fnScope sLkin) := ⟨rfl, rfl, rfl, by decide +kernel, rfl, by decide +kernel, by decide +kernel⟩
abbrev sLodd : Stmt := top 49
theorem scLodd : FnScope ["first", "second", "one", "other", "word"] ["first", "second"] (fnScope sLodd) := ⟨rfl, rfl, rfl, by decide +kernel, rfl, by decide +kernel, by decide +kernel⟩
def kdV (k : Bool × Int) : List V := [.str (if k.1 = true then "multiplier" else "simple"), .int k.2]
def KindsAt (H : Hp) (d : Addr) (F : Str → Option (Bool × Int)) (N : Nat) : Prop := ∃ kvs : List (Key × V), H d = some (.dK kvs) ∧ kvs.length ≤ N ∧ ∀ z, match F z with
  | none => valV kvs (Sum.inr z : Key) = none
  | some k => ∃ t, valV kvs (Sum.inr z : Key) = some (.ref t) ∧ H t = some (.tup (kdV k))
theorem KindsAt.same {H H' : Hp} {d : Addr} {F : Str → Option (Bool × Int)} {N : Nat} (h : KindsAt H d F N) (s : Same H H') : KindsAt H' d F N := by
  obtain ⟨kvs, h1, h2, h3⟩ := h
  refine ⟨kvs, s _ _ h1, h2, fun z => ?_⟩
  have := h3 z
  cases e : F z with
  | none => rw [e] at this; exact this
  | some k => rw [e] at this; obtain ⟨t, a, b⟩ := this; exact ⟨t, a, s _ _ b⟩
theorem KindsAt.put {H : Hp} {d t : Addr} {F : Str → Option (Bool × Int)} {z : Str} {k : Bool × Int} {N : Nat} (h : KindsAt H d F N) (ht : H t = some (.tup (kdV k))) : ∃ kvs, H d = some (.dK kvs) ∧ kvs.length ≤ N ∧ KindsAt (upd H d (.dK (putK kvs (Sum.inr z : Key) (.ref t)))) d (fun y => if z = y then some k else F y) (N + 1) := by
  obtain ⟨kvs, h1, h2, h3⟩ := h
  refine ⟨kvs, h1, h2, _, upd_same, ?_, fun y => ?_⟩
  · have := DSub.putK_len kvs (Sum.inr z : Key) (V.ref t)
    omega
  · have nb : ∀ (b : Addr) (q : List V), H b = some (.tup q) → upd H d (.dK (putK kvs (Sum.inr z : Key) (.ref t))) b = some (.tup q) := fun b q e => by rw [upd_ne (ne_of e h1 (by intro z; cases z))]; exact e
    dsimp only
    by_cases e : z = y
    · subst e
      rw [if_pos rfl]
      exact ⟨t, by rw [valV_put, if_pos rfl], nb _ _ ht⟩
    · rw [if_neg e]
      have := h3 y
      cases q : F y with
      | none =>
        rw [q] at this
        show valV _ _ = none
        rw [valV_put, if_neg (fun z => e (Sum.inr.inj z).symm)]
        exact this
      | some k' =>
        rw [q] at this
        obtain ⟨b, b1, b2⟩ := this
        exact ⟨b, by rw [valV_put, if_neg (fun z => e (Sum.inr.inj z).symm)]; exact b1, nb _ _ b2⟩
theorem find_snoc {α : Type} {p : α → Bool} (l : List α) (a : α) : (l ++ [a]).find? p = (l.find? p).or (if p a = true then some a else none) := by
  rw [List.find?_append]
  congr 1
  by_cases h : p a = true
  · rw [if_pos h, List.find?_cons_of_pos (by exact h)]
  · rw [if_neg h, List.find?_cons_of_neg (by exact h)]
    rfl
def spLkin : Sp := fun vs H Q _ => ∃ (r : Addr) (rs : List SR) (ms : List MR), vs = [.ref r] ∧ RowsAt H r rs ms ∧ GoodSys rs ms ∧ ∀ H' d, Same H H' → KindsAt H' d (kindL rs ms) 100 → Q (.ref d) H'
theorem c_lkin (Z : Zs mg) {f : Addr} {fd : FuncData} (F : Def K mg "_law_kinds" sLkin f fd) (b : Binds K fd ["rows"] []) : Cal P w K mg base 1 "_law_kinds" spLkin [] := by
  refine cal0 F b .nil scLkin (fun vs H Q E h => ?_) (fun cdv A outer s H vs Q E hr h => ?_)
  · obtain ⟨r, rs, ms, rfl, _⟩ := h
    rfl
  · obtain ⟨r, rs, ms, rfl, hR, hg, k⟩ := h
    refine ⟨_, pss_cons (ps_set (i := 1) scLkin.nd rfl (Or.inl rfl) pe_dnewK)
      (pss_cons (ps_for PassesOwn.never rfl (kiL K (pe_dget (hu_of hr) (pv 0) pe_str (fun _ _ => rfl))) (kgTup K (n := 2) rfl (pgs_cons (pg_name (i := 2) scLkin.nd rfl (Or.inl rfl)) (pgs_cons (pg_name (i := 3) scLkin.nd rfl (Or.inl rfl)) pgs_nil)))
        (pss_one (ps_dput (hu_of hr) (pv 1) (pv 2) (pe_tup (pa_cons pe_str (pa_cons (pv 3) pa_nil))) rfl)))
      (pss_cons (ps_for PassesOwn.never rfl (kiL K (pe_dget (hu_of hr) (pv 0) pe_str (fun _ _ => rfl))) (pg_name (i := 4) scLkin.nd rfl (Or.inl rfl))
        (pss_one (ps_dput (hu_of hr) (pv 1) (pe_ix (kIxT K) (pv 4) pe_int (fun _ _ => rfl)) (pe_tup (pa_cons pe_str (pa_cons (pe_ix (kIxT K) (pv 4) pe_int (fun _ _ => rfl)) pa_nil))) rfl)))
      (pss_one (ps_ret (pv 1))))), ?_⟩
    obtain ⟨s, m, xs, ys, hr0, hs, hts, hm, htm⟩ := id hR
    have lx := hts.len
    have ly := htm.len
    rw [List.length_map] at lx ly
    have sl := hg.sl
    have ml := hg.ml
    obtain ⟨nd1, nd2, nd3⟩ := List.nodup_append.mp hg.nd
    walk_at "go"
    refine dnew fun d hd => R.gen hd fun H1 s1 h1 => ?_
    have d0 := hd
    have hr1 := s1 _ _ hr0
    walk_at "rd"
    have kn : ∀ {i : Nat} (hi : i < rs.length), (fun y => if rs[i].w = y then some (false, rs[i].v) else (svL (rs.take i) y).map fun v => (false, v)) = fun y => (svL (rs.take (i + 1)) y).map fun v => ((false, v) : Bool × Int) := fun {i} hi => by
      funext y
      have hri : rs[i]? = some rs[i] := List.getElem?_eq_getElem hi
      have et : rs.take (i + 1) = rs.take i ++ [rs[i]] := by rw [List.take_add_one, hri]; rfl
      have nin := nd_take nd1 (i := i) (z := rs[i].w) (by rw [List.getElem?_map, hri]; rfl)
      rw [et]
      have e1 : svL (rs.take i ++ [rs[i]]) y = (svL (rs.take i) y).or (if rs[i].w = y then some rs[i].v else none) := by
        unfold svL
        rw [find_snoc]
        by_cases h : rs[i].w = y
        · rw [if_pos (decide_eq_true h), if_pos h]
          cases (rs.take i).find? fun r => decide (r.w = y) <;> rfl
        · rw [if_neg (fun z => h (of_decide_eq_true z)), if_neg h, Option.or_none, Option.or_none]
      rw [e1]
      by_cases h : rs[i].w = y
      · rw [if_pos h, if_pos h, svL_none.mpr (fun q hq e => nin (by rw [← List.map_take]; exact List.mem_map.mpr ⟨q, hq, e.trans h.symm⟩))]
        rfl
      · rw [if_neg h, if_neg h, Option.or_none]
    have km : ∀ {i : Nat} (hi : i < ms.length), (fun y => if ms[i].w = y then some (true, ms[i].v) else kindL rs (ms.take i) y) = kindL rs (ms.take (i + 1)) := fun {i} hi => by
      funext y
      have hri : ms[i]? = some ms[i] := List.getElem?_eq_getElem hi
      have et : ms.take (i + 1) = ms.take i ++ [ms[i]] := by rw [List.take_add_one, hri]; rfl
      have nin := nd_take nd2 (i := i) (z := ms[i].w) (by rw [List.getElem?_map, hri]; rfl)
      rw [et]
      have e1 : mvL (ms.take i ++ [ms[i]]) y = (mvL (ms.take i) y).or (if ms[i].w = y then some ms[i] else none) := by
        unfold mvL
        rw [find_snoc]
        by_cases h : ms[i].w = y
        · rw [if_pos (decide_eq_true h), if_pos h]
        · rw [if_neg (fun z => h (of_decide_eq_true z)), if_neg h]
      unfold kindL
      rw [e1]
      by_cases h : ms[i].w = y
      · rw [if_pos h, if_pos h, mvL_none.mpr (fun q hq e => nin (by rw [← List.map_take]; exact List.mem_map.mpr ⟨q, hq, e.trans h.symm⟩))]
        rfl
      · rw [if_neg h, if_neg h, Option.or_none]
    refine for_it (walk_list (K := K) (a := s) (xs := xs)) (fun i σ' H' => ∃ q2 q3, σ' = [some (.ref r), some (.ref d), q2, q3, none] ∧ SameBut d H H' ∧ KindsAt H' d (fun y => (svL (rs.take i) y).map fun v => (false, v)) i)
      ⟨_, _, rfl, SameBut.of s1, [], h1, Nat.zero_le _, fun z => rfl⟩ (fun i σ' H' _ hh => by obtain ⟨_, _, _, e, _⟩ := hh; exact SqL.of (e _ _ (ne_of_none hs d0) hs)) ?_ ?_
    · rintro i u σ' H2 H2' hi ⟨q2, q3, rfl, e2, k2⟩ ⟨rfl, hu⟩
      have hri : rs[i]? = some rs[i] := List.getElem?_eq_getElem (by omega)
      obtain ⟨b, hya, hb⟩ := hts.get i (srV rs[i]) (by rw [List.getElem?_map, hri]; rfl)
      rw [hya] at hu
      cases hu
      have hkn := kn (i := i) (by omega)
      generalize rs[i] = rr at *
      have hb2 : H2' b = some (.tup [.str rr.w, .int rr.v]) := e2 _ _ (ne_of_none hb d0) hb
      refine R.gtup (SqT.of hb2) rfl ?_
      refine R.gcons ?_
      refine R.gname ?_
      refine R.gcons ?_
      refine R.gname ?_
      refine R.gnil ?_
      walk_at "rd"
      refine ⟨by decide, fun t ht => R.gen ht fun H3 s3 h3 => ?_⟩
      obtain ⟨kvs, z1, z2, z3⟩ := (k2.same s3).put (z := rr.w) (k := (false, rr.v)) h3
      walk_at "rd"
      refine R.dput z1 (small1000 (by omega)) ?_
      rw [hkn] at z3
      exact ⟨_, _, rfl, (e2.trans (SameBut.of s3)).put, z3⟩
    · rintro σ' H2 ⟨q2, q3, rfl, e2, k2⟩
      rw [lx, List.take_of_length_le (Nat.le_refl _)] at k2
      have hr2 := e2 _ _ (ne_of_none hr0 d0) hr0
      have hm2 := e2 _ _ (ne_of_none hm d0) hm
      walk_at "rd"
      refine for_it (walk_list (K := K) (a := m) (xs := ys)) (fun i σ' H' => ∃ q4, σ' = [some (.ref r), some (.ref d), q2, q3, q4] ∧ SameBut d H H' ∧ KindsAt H' d (kindL rs (ms.take i)) (rs.length + i))
        ⟨_, rfl, e2, k2⟩ (fun i σ' H' _ hh => by obtain ⟨_, _, e, _⟩ := hh; exact SqL.of (e _ _ (ne_of_none hm d0) hm)) ?_ ?_
      · rintro i u σ' H3 H3' hi ⟨q4, rfl, e3, k3⟩ ⟨rfl, hu⟩
        have hri : ms[i]? = some ms[i] := List.getElem?_eq_getElem (by omega)
        obtain ⟨b, hya, hb⟩ := htm.get i (mrV ms[i]) (by rw [List.getElem?_map, hri]; rfl)
        rw [hya] at hu
        cases hu
        have hkm := km (i := i) (by omega)
        generalize ms[i] = mm at *
        have hb3 := e3 _ _ (ne_of_none hb d0) hb
        unfold mrV at hb3
        refine R.gname ?_
        walk_at "rd"
        refine ⟨by decide, fun t ht => R.gen ht fun H4 s4 h4 => ?_⟩
        have hb4 := s4 _ _ hb3
        obtain ⟨kvs, z1, z2, z3⟩ := (k3.same s4).put (z := mm.w) (k := (true, mm.v)) h4
        walk_at "rd"
        refine R.dput z1 (small1000 (by omega)) ?_
        rw [hkm] at z3
        exact ⟨_, rfl, (e3.trans (SameBut.of s4)).put, z3⟩
      · rintro σ' H3 ⟨q4, rfl, e3, k3⟩
        rw [ly, List.take_of_length_le (Nat.le_refl _)] at k3
        walk_at "rd"
        obtain ⟨kvs, z1, z2, z3⟩ := k3
        exact k H3 d (fun b o h => e3 _ _ (ne_of_none h d0) h) ⟨kvs, z1, by omega, z3⟩
def kdD (k : Bool × Int) : PyData := .tuple [.str (if k.1 = true then "multiplier" else "simple"), .int k.2]
theorem kd_eqv (a b : Bool × Int) : PyData.eqv (kdD a) (kdD b) = decide (a = b) := by
  obtain ⟨a1, a2⟩ := a
  obtain ⟨b1, b2⟩ := b
  have e : PyData.eqv (kdD (a1, a2)) (kdD (b1, b2)) = (((if a1 = true then ("multiplier" : Str) else "simple") == (if b1 = true then ("multiplier" : Str) else "simple")) && ((a2 == b2) && true)) := rfl
  rw [e, Bool.and_true]
  have h1 : (("multiplier" : Str) == ("simple" : Str)) = false := by decide +kernel
  have h2 : (("simple" : Str) == ("multiplier" : Str)) = false := by decide +kernel
  have hi : (a2 == b2) = decide (a2 = b2) := rfl
  rw [hi]
  cases a1 <;> cases b1
  · rw [if_neg Bool.false_ne_true, beq_self_eq_true, Bool.true_and]
    exact decide_eq_decide.mpr ⟨fun h => by rw [h], fun h => (Prod.mk.inj h).2⟩
  · rw [if_neg Bool.false_ne_true, if_pos rfl, h2, Bool.false_and]
    exact (decide_eq_false fun h => Bool.false_ne_true (Prod.mk.inj h).1).symm
  · rw [if_neg Bool.false_ne_true, if_pos rfl, h1, Bool.false_and]
    exact (decide_eq_false fun h => Bool.false_ne_true (Prod.mk.inj h).1.symm).symm
  · rw [if_pos rfl, beq_self_eq_true, Bool.true_and]
    exact decide_eq_decide.mpr ⟨fun h => by rw [h], fun h => (Prod.mk.inj h).2⟩
theorem kd_shaped (k : Bool × Int) : SeqAt.shaped (kdD k) = true := by
  obtain ⟨a, b⟩ := k
  have h1 : PyData.canLay0 (.str "multiplier") = true := by decide +kernel
  have h2 : PyData.canLay0 (.str "simple") = true := by decide +kernel
  have e : PyData.canLay0 (kdD (a, b)) = true := by
    show (PyData.canLay0 (.str (if a = true then "multiplier" else "simple")) && (PyData.canLay0 (.int b) && true)) = true
    cases a
    · rw [if_neg Bool.false_ne_true, h2]; rfl
    · rw [if_pos rfl, h1]; rfl
  unfold SeqAt.shaped
  rw [e, Bool.true_and]
  exact decide_eq_true (by show PyData.depth (.tuple [_, .int b]) ≤ _; show 0 + 1 ≤ _; decide)
theorem kd_dp {K : PySem.W.Frag} {H : Hp} {t : Addr} {k : Bool × Int} (h : H t = some (.tup (kdV k))) : Dp K H (.ref t) (kdD k) := .tup (SqT.of h) (.cons (.str _) (.cons (.int _) .nil))
def spLodd : Sp := fun vs H Q _ => ∃ (r r' : Addr) (rs rs' : List SR) (ms ms' : List MR), vs = [.ref r, .ref r'] ∧ RowsAt H r rs ms ∧ RowsAt H r' rs' ms' ∧ GoodSys rs ms ∧ GoodSys rs' ms' ∧ ∀ H', Same H H' → Q (match oddF rs ms rs' ms' with | some z => .str z | none => .non) H'
theorem c_lodd (Z : Zs mg) (c_words : Cal P w K mg base 1 "_law_words" spLwords []) (c_kinds : Cal P w K mg base 1 "_law_kinds" spLkin []) {f : Addr} {fd : FuncData} (F : Def K mg "_law_odd" sLodd f fd) (b : Binds K fd ["first", "second"] []) : Cal P w K mg base 2 "_law_odd" spLodd [] := by
  refine cal0 F b .nil scLodd (fun vs H Q E h => ?_) (fun cdv A outer s H vs Q E hr h => ?_)
  · obtain ⟨r, r', rs, rs', ms, ms', rfl, _⟩ := h
    rfl
  · obtain ⟨r, r', rs, rs', ms, ms', rfl, hR, hR', hg, hg', k⟩ := h
    refine ⟨_, pss_cons (ps_set (i := 2) scLodd.nd rfl (Or.inl rfl) (pe_c c_kinds hr (by omega) (by rfl) (pa_cons (pv 0) pa_nil)))
      (pss_cons (ps_set (i := 3) scLodd.nd rfl (Or.inl rfl) (pe_c c_kinds hr (by omega) (by rfl) (pa_cons (pv 1) pa_nil)))
      (pss_cons (ps_for PassesOwn.never rfl (kiL K (pe_c c_words hr (by omega) (by rfl) (pa_cons (pv 0) pa_nil))) (pg_name (i := 4) scLodd.nd rfl (Or.inl rfl))
        (pss_one (ps_if (PW.pt (pw_and (pt_cmp (pc_din (hu_of hr) (pv 4) (pv 3))) (pw_and1 (pt_cmpR (op_neD hr.units) (pe_dget (hu_of hr) (pv 2) (pv 4) (fun _ _ => rfl)) (pe_dget (hu_of hr) (pv 3) (pv 4) (fun _ _ => rfl)) (nomark _)))))
        (pss_one (ps_ret (pv 4)))
        (pss_nil))))
      (pss_one (ps_ret pe_non)))), ?_⟩
    have sl := hg.sl
    have ml := hg.ml
    walk_at "go"
    refine ⟨r, rs, ms, rfl, hR, hg, fun H1 d1 s1 K1 => ?_⟩
    walk_at "rd"
    refine ⟨r', rs', ms', rfl, hR'.same s1, hg', fun H2 d2 s2 K2 => ?_⟩
    have s02 := s1.trans s2
    have K1' := K1.same s2
    walk_at "rd"
    refine ⟨r, rs, ms, rfl, hR.same s02, sl, ml, fun H3 a s3 na h3 => ?_⟩
    have s03 := s02.trans s3
    have k13 := K1'.same s3
    have k23 := K2.same s3
    walk_at "rd"
    refine for_it (walk_list (K := K) (a := a) (xs := (wsOf rs ms).map V.str)) (fun i σ' H' => ∃ q4, σ' = [some (.ref r), some (.ref r'), some (.ref d1), some (.ref d2), q4] ∧ Same H3 H' ∧ oddF rs ms rs' ms' = ((wsOf rs ms).drop i).find? (oddB rs ms rs' ms'))
      ⟨_, rfl, Same.refl _, by rw [List.drop_zero]; rfl⟩ (fun i σ' H' _ hh => by obtain ⟨_, _, e, _⟩ := hh; exact SqL.of (e _ _ h3)) ?_ ?_
    · rintro i u σ' H4 H4' hi ⟨q4, rfl, s4, tg⟩ ⟨rfl, hu⟩
      rw [List.length_map] at hi
      have hri : (wsOf rs ms)[i]? = some (wsOf rs ms)[i] := List.getElem?_eq_getElem hi
      rw [List.getElem?_map, hri] at hu
      cases hu
      rw [List.drop_eq_getElem_cons hi] at tg
      have hmem := List.mem_of_getElem? hri
      generalize (wsOf rs ms)[i] = z at *
      have k14 := k13.same s4
      have k24 := k23.same s4
      obtain ⟨kv1, a1, a2, a3⟩ := k14
      obtain ⟨kv2, b1, b2, b3⟩ := k24
      have go : oddB rs ms rs' ms' z = false → oddF rs ms rs' ms' = ((wsOf rs ms).drop (i + 1)).find? (oddB rs ms rs' ms') := fun h => by
        rw [tg, List.find?_cons_of_neg (by rw [h]; exact Bool.false_ne_true)]
      refine R.gname ?_
      walk_at "rd"
      refine R.din b1 ?_
      have b3z := b3 z
      have a3z := a3 z
      cases hk2 : kindL rs' ms' z with
      | none =>
        rw [hk2] at b3z
        replace b3z : valV kv2 (Sum.inr z) = none := b3z
        rw [b3z]
        refine ⟨false, rfl, ?_⟩
        rw [if_neg Bool.false_ne_true]
        refine ⟨_, rfl, s4, go ?_⟩
        unfold oddB
        rw [hk2]
        cases kindL rs ms z <;> rfl
      | some kb =>
        rw [hk2] at b3z
        obtain ⟨tb, e1, e2⟩ := b3z
        obtain ⟨ka, hk1⟩ : ∃ ka, kindL rs ms z = some ka := by
          rcases List.mem_append.mp hmem with h | h
          · obtain ⟨q, hq, rfl⟩ := List.mem_map.mp h
            exact ⟨_, kind_s hg hq⟩
          · obtain ⟨q, hq, rfl⟩ := List.mem_map.mp h
            exact ⟨_, kind_m hg hq⟩
        rw [hk1] at a3z
        obtain ⟨ta, f1, f2⟩ := a3z
        rw [e1]
        refine ⟨true, rfl, ?_⟩
        rw [if_pos rfl]
        walk_at "rd"
        refine R.dgetS a1 f1 ?_
        walk_at "rd"
        refine R.dgetS b1 e1 ?_
        refine ⟨_, _, kd_dp f2, kd_dp e2, kd_shaped _, kd_shaped _, ?_⟩
        rw [kd_eqv]
        have ob : oddB rs ms rs' ms' z = !(decide (ka = kb)) := by
          unfold oddB
          rw [hk1, hk2]
        refine ⟨_, rfl, ?_⟩
        by_cases hab : ka = kb
        · rw [decide_eq_true hab] at ob ⊢
          rw [if_neg (show ¬ ((!true) = true) from Bool.false_ne_true)]
          exact ⟨_, rfl, s4, go ob⟩
        · rw [decide_eq_false hab] at ob ⊢
          rw [if_pos (show (!false) = true from rfl)]
          rw [List.find?_cons_of_pos (by rw [ob]; rfl)] at tg
          have k1 := k H4' (s03.trans s4)
          rw [tg] at k1
          walk_at "rd"
          exact k1
    · rintro σ' H4 ⟨q4, rfl, s4, tg⟩
      rw [List.length_map, List.drop_of_length_le (Nat.le_refl _)] at tg
      have k1 := k H4 (s03.trans s4)
      rw [tg] at k1
      walk_at "rd"
      exact k1
end
end KN
end
section
set_option Elab.async false
set_option linter.all false
set_option maxRecDepth 100000
set_option maxHeartbeats 4000000
set_option pp.maxSteps 1500
set_option pp.deepTerms false
local macro_rules | `(tactic| walk_at "ne") => `(tactic| first
  | assumption | (apply Ne.symm; assumption)
  | exact R.ne_new (by assumption) | exact (R.ne_new (by assumption)).symm
  | exact L2.ne_of_none (by assumption) (by assumption) | exact (L2.ne_of_none (by assumption) (by assumption)).symm
  | exact L2.ne_of_none (by assumption) (R.free_new (by assumption)) | exact (L2.ne_of_none (by assumption) (R.free_new (by assumption))).symm)
local macro_rules | `(tactic| walk_at "at") => `(tactic| first
  | assumption | exact L2.upd_same
  | (refine R.sb (H := ?H) (p := ?p) ?e ?n ?h; (case e => assumption); (case n => walk_at "ne"); (case h => walk_at "at"))
  | (refine R.sm (H := ?H) ?e ?h; (case e => assumption); (case h => walk_at "at"))
  | (refine Eq.trans (L2.upd_ne ?_) ?_ <;> first | walk_at "ne" | walk_at "at"))
local macro_rules | `(tactic| walk_at "sqt") => `(tactic| first | assumption | (refine L2.SqT.of ?_; walk_at "at"))
local macro_rules | `(tactic| walk_at "ty") => `(tactic| first | exact R.tyN | exact R.tyB | exact R.tyI | exact R.tyS | (refine R.tyT (xs := ?xs) ?h; case h => walk_at "at") | (refine R.tyL (xs := ?xs) ?h; case h => walk_at "at"))
local macro_rules | `(tactic| walk_at "kit") => `(tactic| first | exact R.kit_NoneType_tuple | exact R.kit_NoneType_list | exact R.kit_NoneType_bool | exact R.kit_NoneType_str | exact R.kit_NoneType_int | exact R.kit_bool_tuple | exact R.kit_bool_list | exact R.kit_bool_bool | exact R.kit_bool_str | exact R.kit_bool_int | exact R.kit_int_tuple | exact R.kit_int_list | exact R.kit_int_bool | exact R.kit_int_str | exact R.kit_int_int | exact R.kit_str_tuple | exact R.kit_str_list | exact R.kit_str_bool | exact R.kit_str_str | exact R.kit_str_int | exact R.kit_tuple_tuple | exact R.kit_tuple_list | exact R.kit_tuple_bool | exact R.kit_tuple_str | exact R.kit_tuple_int | exact R.kit_list_tuple | exact R.kit_list_list | exact R.kit_list_bool | exact R.kit_list_str | exact R.kit_list_int)
local macro_rules | `(tactic| walk_at "sz") => `(tactic| first | assumption | (refine Nat.le_trans ?_ (show 1000 ≤ PySem.sizeLine by decide); omega) | decide)
local macro_rules | `(tactic| walk_at "szl") => `(tactic| first | assumption | exact Nat.le_of_lt (L2.small1000 (by omega)) | decide | decide +kernel)
local macro_rules | `(tactic| walk_at "sys") => `(tactic| first | assumption | exact KN.SysAt.same (by assumption) (by assumption))
local macro_rules | `(tactic| walk_at "dk") => `(tactic| first | exact R.rowsS _ _ | exact R.rowsM _ _)
local macro_rules | `(tactic| walk_at "sqa") => `(tactic| first | assumption | exact R.SeqA.same (by assumption) (by assumption) | exact R.SeqA.new (by assumption) (by assumption) | (exact Or.inl (by walk_at "at")) | (exact Or.inr (by walk_at "at")))
local macro_rules | `(tactic| walk_at "ix") => `(tactic| first | rfl | (exact L2.atI_nat (by assumption)) | assumption)
local macro_rules | `(tactic| walk_at "cond") => `(tactic| first
  | exact Or.inl (by decide) | exact Or.inr (by decide) | exact Or.inl ⟨by omega, by omega⟩ | exact Or.inr ⟨by omega, by omega⟩
  | (constructor <;> omega) | (show _ ≠ _; omega) | decide | omega)
local macro_rules | `(tactic| walk_at "r1") => `(tactic| first
  | ((with_reducible refine R.var (v := ?v) ?h ?q); case h => rfl)
  | with_reducible apply R.cons
  | with_reducible apply R.c
  | with_reducible apply R.nil
  | with_reducible apply R.op
  | with_reducible apply R.gname
  | with_reducible apply R.seq
  | with_reducible apply R.call
  | with_reducible apply R.asg
  | with_reducible apply R.ex
  | with_reducible apply R.tst
  | with_reducible apply R.i0
  | with_reducible apply R.ifs
  | with_reducible apply R.ret
  | with_reducible apply R.retN
  | with_reducible apply R.drop
  | with_reducible apply R.next
  | with_reducible apply R.tb_
  | with_reducible apply R.eqI
  | with_reducible apply R.neI
  | ((with_reducible refine R.ic ?_ ?_); · walk_at "cond")
  | with_reducible apply R.u0
  | with_reducible apply R.un
  | ((with_reducible refine R.eq ?_ ?_); · rfl)
  | ((with_reducible refine R.ne ?_ ?_); · rfl)
  | with_reducible apply R.and_
  | with_reducible apply R.or_
  | with_reducible apply R.not_
  | with_reducible apply R.ife
  | with_reducible apply R.chain
  | with_reducible apply R.cb
  | with_reducible apply R.bm
  | with_reducible apply R.gsub
  | with_reducible apply R.gnil
  | with_reducible apply R.gcons
  | with_reducible apply R.yes
  | with_reducible apply R.int1
  | ((with_reducible refine R.lenL (xs := ?xs) ?h ?q); case h => walk_at "at")
  | ((with_reducible refine R.ixL (xs := ?xs) (v := ?v) ?h ?e ?q); (case h => walk_at "at"); (case e => walk_at "ix"))
  | ((with_reducible refine R.setL (xs := ?xs) (n := ?n) ?h ?e ?q); (case h => walk_at "at"); (case e => rfl))
  | ((with_reducible refine R.append (xs := ?xs) ?h ?e ?q); (case h => walk_at "at"); (case e => walk_at "cond"))
  | with_reducible apply R.is_
  | with_reducible apply R.isnot
  | with_reducible apply R.andV
  | with_reducible apply R.orV
  | with_reducible apply R.notV
  | ((with_reducible refine R.isi (s := ?s) (b := ?b) ?ty ?h ?q); (case ty => walk_at "ty"); (case h => walk_at "kit"))
  | ((with_reducible refine R.addS ?h ?q); (case h => walk_at "sz"))
  | with_reducible apply R.max2
  | with_reducible apply R.min2
  | ((with_reducible refine R.lenStr ?h ?q); (case h => walk_at "szl"))
  | ((with_reducible refine R.ixS (n := ?n) ?h ?e ?q); (case h => walk_at "szl"); (case e => walk_at "ix"))
  | ((with_reducible refine R.tyl (xs := ?xs) ?h ?q); (case h => walk_at "at"))
  | with_reducible apply R.itlist
  | with_reducible apply R.ittup
  | with_reducible apply R.m1
  | with_reducible apply R.m1s
  | with_reducible apply R.leS
  | with_reducible apply R.itstr
  | with_reducible apply R.itstrE
  | with_reducible apply R.lc
  | with_reducible apply R.lc2
  | with_reducible apply R.ckw
  | with_reducible apply R.par
  | with_reducible apply R.parE
  | with_reducible apply R.itrev
  | with_reducible apply R.dsetd
  | with_reducible apply R.dnotin_
  | with_reducible apply R.for_
  | ((with_reducible refine R.all_ (bs := ?bs) ?h ?q); (case h => walk_at "at"))
  | with_reducible apply R.rng1
  | ((with_reducible refine R.rngE ?h ?q); (case h => (constructor <;> omega)))
  | ((with_reducible refine R.lenT (xs := ?xs) ?h ?q); (case h => walk_at "sqt"))
  | ((with_reducible refine R.ixT (xs := ?xs) (v := ?v) ?h ?e ?q); (case h => walk_at "sqt"); (case e => walk_at "ix"))
  | ((refine R.itlE (xs := ?xs) ?h ?q); (case h => walk_at "at"))
  | ((refine R.ittE (xs := ?xs) ?h ?q); (case h => walk_at "at"))
  | ((refine R.gseq (xs := ?xs) ?h ?e ?q); (case h => walk_at "sqa"); (case e => rfl))
  | ((refine R.ixA (xs := ?xs) (v := ?v) ?h ?e ?q); (case h => walk_at "sqa"); (case e => walk_at "ix"))
  | ((refine R.lenA (xs := ?xs) ?h ?q); (case h => walk_at "sqa"))
  | ((with_reducible refine R.gtup (xs := ?xs) ?h ?e ?q); (case h => walk_at "sqt"); (case e => rfl))
  | with_reducible apply R.din_
  | with_reducible apply R.dput_
  | with_reducible apply R.dget2_
  | ((with_reducible refine R.aug_ (x := ?x) ?h ?q); case h => rfl)
  | with_reducible apply R.ipI_
  | with_reducible apply R.rng2
  | ((with_reducible refine R.rngE2 ?h ?q); (case h => (refine ⟨?_, ?_, ?_, ?_⟩ <;> omega)))
  | with_reducible apply R.brk
  | with_reducible apply R.intB
  | with_reducible apply R.meth_
  | ((refine KN.methS (rs := ?rs) (ms := ?ms) ?h (fun _ _ _ _ => rfl) ?q); case h => walk_at "sys")
  | with_reducible apply R.sl_
  | with_reducible apply R.np_
  | with_reducible apply R.pt_
  | with_reducible apply R.ptE
  | with_reducible apply R.dget_
  | with_reducible apply R.revL_
  | ((refine R.dgetS (kvs := ?kvs) (v := ?v) ?h ?e ?q); (case h => walk_at "at"); (case e => walk_at "dk"))
  | with_reducible apply R.sfld
  | with_reducible apply R.fld_
  | with_reducible apply R.dc
  | with_reducible apply R.dget1_
  | with_reducible apply R.itseq
  | with_reducible apply R.itenum
  | with_reducible apply R.itT
  | with_reducible apply R.itF
  | with_reducible apply R.itNT
  | with_reducible apply R.itNF
  | (with_reducible apply R.tup)
  | (with_reducible apply R.lst))
local macro_rules | `(tactic| walk_at "rd") => `(tactic| (repeat (first | walk_at "r1" | (dsimp only [Int.reduceToNat, List.set_cons_succ, List.set_cons_zero, List.length_cons, List.length_nil, List.nil_append, List.cons_append, List.append_nil]))))
local macro_rules | `(tactic| walk_at "go") => `(tactic| (rw [R.start_eq]; dsimp only [R.startE, List.map_nil]; walk_at "rd"))
local macro_rules | `(tactic| walk_at "r1") => `(tactic| first | with_reducible apply R.callN | with_reducible apply R.tr_ | with_reducible apply R.rng3 | with_reducible apply R.bits | with_reducible apply R.dnewT)
-- RTX
namespace KN
open PySem L2 SX R
open C8 (Cal Def cal0 pe_c pe_gc fnScope fnBody pss_cut Met pe_mt pe_mt0)
section
variable {P : Program} {w : World} {K : PySem.W.Frag} {mg : Str → Option Value} {base : Heap}
abbrev sMism : Stmt := top 21
theorem scMism : FnScope ["first", "second", "word", "value", "row", "other"] ["first", "second"] (fnScope sMism) := ⟨rfl, rfl, rfl, by decide +kernel, rfl, by decide +kernel, by decide +kernel⟩
theorem ninT {H : Hp} {p : Addr} {x : V} {xs : List V} {Q : VK} {b : Bool} (h : H p = some (.tup xs)) (hx : flatV x = true) (hs : xs.all flatV = true) (e : (!inV x xs) = b) (q : Q (.bl b) H) : rIn K true x (.ref p) H Q := ⟨p, xs, rfl, .inr (SqT.of h), hx, hs, by subst e; exact q⟩
section
variable {S x : Addr} {z : Str} {rs : List SR} {ms : List MR} {H : Hp} {Q : VK} {E : XK}
theorem r_mlL (h : SysAt S H x rs ms) (g : GoodSys rs ms) (q1 : ∀ m b, mvL ms z = some m → H b = some (.tup (mrV m)) → Q (.ref b) H) (q2 : mvL ms z = none → Q .non H) : spMl S [.ref x, .str z] H Q E := by
  refine ⟨x, z, rs, ms, rfl, h, by have := g.ml; omega, ?_⟩
  cases e : mvL ms z with
  | none => exact .inr ⟨fun hz => by obtain ⟨m, hm, e2⟩ := List.mem_map.mp hz; exact mvL_none.mp e m hm e2, q2 e⟩
  | some m => exact .inl ⟨m, (mvL_some e).1, (mvL_some e).2, (List.nodup_append.mp g.nd).2.1, fun b hb => q1 m b e hb⟩
theorem r_svL (h : SysAt S H x rs ms) (q : Q (match svL rs z with | some v => .int v | none => .non) H) : spSv S [.ref x, .str z] H Q E := ⟨x, z, rs, ms, rfl, h, by rw [svOf_eq]; exact q⟩
end
def spMism (S : Addr) : Sp := fun vs H Q _ => ∃ (x y : Addr) (rs rs' : List SR) (ms ms' : List MR), vs = [.ref x, .ref y] ∧ SysAt S H x rs ms ∧ SysAt S H y rs' ms' ∧ GoodSys rs ms ∧ GoodSys rs' ms' ∧ ∀ H', Same H H' → Q (match oddF rs ms rs' ms' with | some z => .str z | none => .non) H'
theorem c_mism {S : Addr} (Z : Zs mg) (TS : SysK K S) (m_simple_value : Met P w K mg base 1 S "simple_value" (spSv S) []) (m_multiplier : Met P w K mg base 1 S "multiplier" (spMl S) []) {f : Addr} {fd : FuncData} (F : Def K mg "mismatch" sMism f fd) (b : Binds K fd ["first", "second"] []) : Cal P w K mg base 2 "mismatch" (spMism S) [] := by
  refine cal0 F b .nil scMism (fun vs H Q E h => ?_) (fun cdv A outer s H vs Q E hr h => ?_)
  · obtain ⟨x, y, rs, rs', ms, ms', rfl, _⟩ := h
    rfl
  · obtain ⟨x, y, rs, rs', ms, ms', rfl, hX, hY, hg, hg', k⟩ := h
    refine ⟨_, pss_cons (ps_for PassesOwn.never rfl (kiT K (kFld K (pv 0))) (kgTup K (n := 2) rfl (pgs_cons (pg_name (i := 2) scMism.nd rfl (Or.inl rfl)) (pgs_cons (pg_name (i := 3) scMism.nd rfl (Or.inl rfl)) pgs_nil)))
        (pss_one (ps_if (PW.pt (pw_or (pt_cmpR oIsNot (pe_mt m_multiplier hr (by omega) (pv 1) (pa_cons (pv 2) pa_nil)) pe_non (nomark _)) (pw_or1 (pt_cmpR (kNotIn K) (pe_mt m_simple_value hr (by omega) (pv 1) (pa_cons (pv 2) pa_nil)) (pe_tup (pa_cons pe_non (pa_cons (pv 3) pa_nil))) (by rfl)))))
        (pss_one (ps_ret (pv 2)))
        (pss_nil))))
      (pss_cons (ps_for PassesOwn.never rfl (kiT K (kFld K (pv 0))) (pg_name (i := 4) scMism.nd rfl (Or.inl rfl))
        (pss_cons (ps_set (i := 5) scMism.nd rfl (Or.inl rfl) (pe_mt m_multiplier hr (by omega) (pv 1) (pa_cons (pe_ix (kIxT K) (pv 4) pe_int (fun _ _ => rfl)) pa_nil)))
      (pss_one (ps_if (PW.pt (pw_or (pt_cmpR oIsNot (pe_mt m_simple_value hr (by omega) (pv 1) (pa_cons (pe_ix (kIxT K) (pv 4) pe_int (fun _ _ => rfl)) pa_nil)) pe_non (nomark _)) (pw_or1 (PW.pt (pw_and (pt_cmpR oIsNot (pv 5) pe_non (nomark _)) (pw_and1 (pt_cmpR op_ne (pe_ix (kIxT K) (pv 5) pe_int (fun _ _ => rfl)) (pe_ix (kIxT K) (pv 4) pe_int (fun _ _ => rfl)) (nomark _))))))))
        (pss_one (ps_ret (pe_ix (kIxT K) (pv 4) pe_int (fun _ _ => rfl))))
        (pss_nil)))))
      (pss_one (ps_ret pe_non))), ?_⟩
    obtain ⟨dx, s, m, v, r, xs, ys, hx, hs, hts, hm, htm, hv, hrr⟩ := id hX
    have lx := hts.len
    have ly := htm.len
    rw [List.length_map] at lx ly
    walk_at "go"
    refine R.fldE hx TS.cl TS.nS rfl ?_
    walk_at "rd"
    refine for_it (walk_tup (K := K) (a := s) (xs := xs)) (fun i σ' H' => ∃ q2 q3, σ' = [some (.ref x), some (.ref y), q2, q3, none, none] ∧ Same H H' ∧ oddF rs ms rs' ms' = (((rs.drop i).map (·.w)) ++ ms.map (·.w)).find? (oddB rs ms rs' ms'))
      ⟨_, _, rfl, Same.refl _, by rw [List.drop_zero]; rfl⟩ (fun i σ' H' _ hh => by obtain ⟨_, _, _, e, _⟩ := hh; exact SqT.of (e _ _ hs)) ?_ ?_
    · rintro i u σ' H1 H1' hi ⟨q2, q3, rfl, s1, tg⟩ ⟨rfl, hu⟩
      have hri : rs[i]? = some rs[i] := List.getElem?_eq_getElem (by omega)
      obtain ⟨b', hya, hb⟩ := hts.get i (srV rs[i]) (by rw [List.getElem?_map, hri]; rfl)
      rw [hya] at hu
      cases hu
      have hmem := List.mem_of_getElem? hri
      rw [List.drop_eq_getElem_cons (show i < rs.length by omega), List.map_cons, List.cons_append] at tg
      have hk := kind_s hg hmem
      generalize rs[i] = rr at *
      have hb1 : H1' b' = some (.tup [.str rr.w, .int rr.v]) := s1 _ _ hb
      have Y1 := hY.same s1
      have yes : oddB rs ms rs' ms' rr.w = true → ∀ G, Same H G → Q (.str rr.w) G := fun h G g => by
        rw [List.find?_cons_of_pos (by exact h)] at tg
        have := k G g
        rw [tg] at this
        exact this
      have no : oddB rs ms rs' ms' rr.w = false → oddF rs ms rs' ms' = (((rs.drop (i + 1)).map (·.w)) ++ ms.map (·.w)).find? (oddB rs ms rs' ms') := fun h => by
        rw [tg, List.find?_cons_of_neg (by rw [h]; exact Bool.false_ne_true)]
      have ob : oddB rs ms rs' ms' rr.w = match kindL rs' ms' rr.w with | some b => !(decide ((false, rr.v) = b)) | none => false := by
        unfold oddB
        rw [hk]
        cases kindL rs' ms' rr.w <;> rfl
      refine R.gtup (SqT.of hb1) rfl ?_
      refine R.gcons ?_
      refine R.gname ?_
      refine R.gcons ?_
      refine R.gname ?_
      refine R.gnil ?_
      walk_at "rd"
      refine r_mlL Y1 hg' (fun mm a he ha => ?_) (fun he => ?_)
      · have hk2 : kindL rs' ms' rr.w = some (true, mm.v) := by unfold kindL; rw [he]
        walk_at "rd"
        refine inoN (fun z => nomatch z) ?_
        walk_at "rd"
        refine yes ?_ _ s1
        rw [ob, hk2]
        show (!(decide ((false, rr.v) = (true, mm.v)))) = true
        rw [decide_eq_false (fun h => Bool.false_ne_true (Prod.mk.inj h).1)]
        rfl
      · have hk2 : kindL rs' ms' rr.w = (svL rs' rr.w).map fun v => (false, v) := by unfold kindL; rw [he]
        walk_at "rd"
        refine inoY rfl ?_
        walk_at "rd"
        refine r_svL Y1 ?_
        walk_at "rd"
        refine ⟨by decide, fun t ht => R.gen ht fun H2 s2 h2 => ?_⟩
        have s02 := s1.trans s2
        cases hs2 : svL rs' rr.w with
        | none =>
          rw [hs2] at hk2
          refine ninT (b := false) h2 rfl rfl rfl ?_
          refine ⟨false, rfl, ?_⟩
          rw [if_neg Bool.false_ne_true]
          refine ⟨_, _, rfl, s02, no ?_⟩
          rw [ob, hk2]
          rfl
        | some v' =>
          rw [hs2] at hk2
          by_cases hv' : rr.v = v'
          · refine ninT (b := false) h2 rfl rfl ?_ ?_
            · show (!((rr.v == v') || false)) = false
              rw [hv', beq_self_eq_true]
              rfl
            · refine ⟨false, rfl, ?_⟩
              rw [if_neg Bool.false_ne_true]
              refine ⟨_, _, rfl, s02, no ?_⟩
              rw [ob, hk2, hv']
              show (!(decide ((false, v') = (false, v')))) = false
              rw [decide_eq_true rfl]
              rfl
          · refine ninT (b := true) h2 rfl rfl ?_ ?_
            · show (!((rr.v == v') || false)) = true
              rw [beq_eq_false_iff_ne.mpr hv']
              rfl
            · refine ⟨true, rfl, ?_⟩
              rw [if_pos rfl]
              walk_at "rd"
              refine yes ?_ _ s02
              rw [ob, hk2]
              show (!(decide ((false, rr.v) = (false, v')))) = true
              rw [decide_eq_false (fun h => hv' (Prod.mk.inj h).2)]
              rfl
    · rintro σ' H1 ⟨q2, q3, rfl, s1, tg⟩
      rw [lx, List.drop_of_length_le (Nat.le_refl _)] at tg
      have hx1 := s1 _ _ hx
      walk_at "rd"
      refine R.fldE hx1 TS.cl TS.nM rfl ?_
      have hm1 := s1 _ _ hm
      walk_at "rd"
      refine for_it (walk_tup (K := K) (a := m) (xs := ys)) (fun i σ' H' => ∃ q4 q5, σ' = [some (.ref x), some (.ref y), q2, q3, q4, q5] ∧ Same H H' ∧ oddF rs ms rs' ms' = ((ms.drop i).map (·.w)).find? (oddB rs ms rs' ms'))
        ⟨_, _, rfl, s1, by rw [List.drop_zero]; exact tg⟩ (fun i σ' H' _ hh => by obtain ⟨_, _, _, e, _⟩ := hh; exact SqT.of (e _ _ hm)) ?_ ?_
      · rintro i u σ' H2 H2' hi ⟨q4, q5, rfl, s2, tg⟩ ⟨rfl, hu⟩
        have hri : ms[i]? = some ms[i] := List.getElem?_eq_getElem (by omega)
        obtain ⟨b', hya, hb⟩ := htm.get i (mrV ms[i]) (by rw [List.getElem?_map, hri]; rfl)
        rw [hya] at hu
        cases hu
        have hmem := List.mem_of_getElem? hri
        rw [List.drop_eq_getElem_cons (show i < ms.length by omega), List.map_cons] at tg
        have hk := kind_m hg hmem
        generalize ms[i] = rr at *
        have hb1 := s2 _ _ hb
        unfold mrV at hb1
        have Y1 := hY.same s2
        have yes : oddB rs ms rs' ms' rr.w = true → ∀ G, Same H G → Q (.str rr.w) G := fun h G g => by
          rw [List.find?_cons_of_pos (by exact h)] at tg
          have := k G g
          rw [tg] at this
          exact this
        have no : oddB rs ms rs' ms' rr.w = false → oddF rs ms rs' ms' = ((ms.drop (i + 1)).map (·.w)).find? (oddB rs ms rs' ms') := fun h => by
          rw [tg, List.find?_cons_of_neg (by rw [h]; exact Bool.false_ne_true)]
        have ob : oddB rs ms rs' ms' rr.w = match kindL rs' ms' rr.w with | some b => !(decide ((true, rr.v) = b)) | none => false := by
          unfold oddB
          rw [hk]
          cases kindL rs' ms' rr.w <;> rfl
        refine R.gname ?_
        walk_at "rd"
        refine r_mlL Y1 hg' (fun mm a he ha => ?_) (fun he => ?_)
        · have hk2 : kindL rs' ms' rr.w = some (true, mm.v) := by unfold kindL; rw [he]
          have hs2 : svL rs' rr.w = none := by
            rcases kind_apart hg' rr.w with h | h
            · exact h
            · rw [h] at he; cases he
          unfold mrV at ha
          walk_at "rd"
          refine r_svL Y1 ?_
          rw [hs2]
          walk_at "rd"
          refine inoY rfl ?_
          walk_at "rd"
          refine inoN (fun z => nomatch z) ?_
          walk_at "rd"
          by_cases hv' : mm.v = rr.v
          · refine inoY hv' ?_
            refine ⟨_, _, rfl, s2, no ?_⟩
            rw [ob, hk2, hv']
            show (!(decide ((true, rr.v) = (true, rr.v)))) = false
            rw [decide_eq_true rfl]
            rfl
          · refine inoN hv' ?_
            walk_at "rd"
            refine yes ?_ _ s2
            rw [ob, hk2]
            show (!(decide ((true, rr.v) = (true, mm.v)))) = true
            rw [decide_eq_false (fun h => hv' (Prod.mk.inj h).2.symm)]
            rfl
        · have hk2 : kindL rs' ms' rr.w = (svL rs' rr.w).map fun v => (false, v) := by unfold kindL; rw [he]
          walk_at "rd"
          refine r_svL Y1 ?_
          cases hs2 : svL rs' rr.w with
          | none =>
            rw [hs2] at hk2
            walk_at "rd"
            refine inoY rfl ?_
            walk_at "rd"
            refine inoY rfl ?_
            refine ⟨_, _, rfl, s2, no ?_⟩
            rw [ob, hk2]
            rfl
          | some v' =>
            rw [hs2] at hk2
            walk_at "rd"
            refine inoN (fun z => nomatch z) ?_
            walk_at "rd"
            refine yes ?_ _ s2
            rw [ob, hk2]
            show (!(decide ((true, rr.v) = (false, v')))) = true
            rw [decide_eq_false (fun h => Bool.false_ne_true (Prod.mk.inj h).1.symm)]
            rfl
      · rintro σ' H2 ⟨q4, q5, rfl, s2, tg⟩
        rw [ly, List.drop_of_length_le (Nat.le_refl _)] at tg
        have k1 := k H2 s2
        rw [tg] at k1
        walk_at "rd"
        exact k1
end
end KN
end
section
set_option Elab.async false
set_option linter.all false
set_option maxRecDepth 100000
set_option maxHeartbeats 4000000
set_option pp.maxSteps 1500
set_option pp.deepTerms false
local macro_rules | `(tactic| walk_at "ne") => `(tactic| first
  | assumption | (apply Ne.symm; assumption)
  | exact R.ne_new (by assumption) | exact (R.ne_new (by assumption)).symm
  | exact L2.ne_of_none (by assumption) (by assumption) | exact (L2.ne_of_none (by assumption) (by assumption)).symm
  | exact L2.ne_of_none (by assumption) (R.free_new (by assumption)) | exact (L2.ne_of_none (by assumption) (R.free_new (by assumption))).symm)
local macro_rules | `(tactic| walk_at "at") => `(tactic| first
  | assumption | exact L2.upd_same
  | (refine R.sb (H := ?H) (p := ?p) ?e ?n ?h; (case e => assumption); (case n => walk_at "ne"); (case h => walk_at "at"))
  | (refine R.sm (H := ?H) ?e ?h; (case e => assumption); (case h => walk_at "at"))
  | (refine Eq.trans (L2.upd_ne ?_) ?_ <;> first | walk_at "ne" | walk_at "at"))
local macro_rules | `(tactic| walk_at "sqt") => `(tactic| first | assumption | (refine L2.SqT.of ?_; walk_at "at"))
local macro_rules | `(tactic| walk_at "ty") => `(tactic| first | exact R.tyN | exact R.tyB | exact R.tyI | exact R.tyS | (refine R.tyT (xs := ?xs) ?h; case h => walk_at "at") | (refine R.tyL (xs := ?xs) ?h; case h => walk_at "at"))
local macro_rules | `(tactic| walk_at "kit") => `(tactic| first | exact R.kit_NoneType_tuple | exact R.kit_NoneType_list | exact R.kit_NoneType_bool | exact R.kit_NoneType_str | exact R.kit_NoneType_int | exact R.kit_bool_tuple | exact R.kit_bool_list | exact R.kit_bool_bool | exact R.kit_bool_str | exact R.kit_bool_int | exact R.kit_int_tuple | exact R.kit_int_list | exact R.kit_int_bool | exact R.kit_int_str | exact R.kit_int_int | exact R.kit_str_tuple | exact R.kit_str_list | exact R.kit_str_bool | exact R.kit_str_str | exact R.kit_str_int | exact R.kit_tuple_tuple | exact R.kit_tuple_list | exact R.kit_tuple_bool | exact R.kit_tuple_str | exact R.kit_tuple_int | exact R.kit_list_tuple | exact R.kit_list_list | exact R.kit_list_bool | exact R.kit_list_str | exact R.kit_list_int)
local macro_rules | `(tactic| walk_at "sz") => `(tactic| first | assumption | (refine Nat.le_trans ?_ (show 1000 ≤ PySem.sizeLine by decide); omega) | decide)
local macro_rules | `(tactic| walk_at "szl") => `(tactic| first | assumption | exact Nat.le_of_lt (L2.small1000 (by omega)) | decide | decide +kernel)
local macro_rules | `(tactic| walk_at "sys") => `(tactic| first | assumption | exact KN.SysAt.same (by assumption) (by assumption))
local macro_rules | `(tactic| walk_at "dk") => `(tactic| first | exact R.rowsS _ _ | exact R.rowsM _ _)
local macro_rules | `(tactic| walk_at "sqa") => `(tactic| first | assumption | exact R.SeqA.same (by assumption) (by assumption) | exact R.SeqA.new (by assumption) (by assumption) | (exact Or.inl (by walk_at "at")) | (exact Or.inr (by walk_at "at")))
local macro_rules | `(tactic| walk_at "ix") => `(tactic| first | rfl | (exact L2.atI_nat (by assumption)) | assumption)
local macro_rules | `(tactic| walk_at "cond") => `(tactic| first
  | exact Or.inl (by decide) | exact Or.inr (by decide) | exact Or.inl ⟨by omega, by omega⟩ | exact Or.inr ⟨by omega, by omega⟩
  | (constructor <;> omega) | (show _ ≠ _; omega) | decide | omega)
local macro_rules | `(tactic| walk_at "r1") => `(tactic| first
  | ((with_reducible refine R.var (v := ?v) ?h ?q); case h => rfl)
  | with_reducible apply R.cons
  | with_reducible apply R.c
  | with_reducible apply R.nil
  | with_reducible apply R.op
  | with_reducible apply R.gname
  | with_reducible apply R.seq
  | with_reducible apply R.call
  | with_reducible apply R.asg
  | with_reducible apply R.ex
  | with_reducible apply R.tst
  | with_reducible apply R.i0
  | with_reducible apply R.ifs
  | with_reducible apply R.ret
  | with_reducible apply R.retN
  | with_reducible apply R.drop
  | with_reducible apply R.next
  | with_reducible apply R.tb_
  | with_reducible apply R.eqI
  | with_reducible apply R.neI
  | ((with_reducible refine R.ic ?_ ?_); · walk_at "cond")
  | with_reducible apply R.u0
  | with_reducible apply R.un
  | ((with_reducible refine R.eq ?_ ?_); · rfl)
  | ((with_reducible refine R.ne ?_ ?_); · rfl)
  | with_reducible apply R.and_
  | with_reducible apply R.or_
  | with_reducible apply R.not_
  | with_reducible apply R.ife
  | with_reducible apply R.chain
  | with_reducible apply R.cb
  | with_reducible apply R.bm
  | with_reducible apply R.gsub
  | with_reducible apply R.gnil
  | with_reducible apply R.gcons
  | with_reducible apply R.yes
  | with_reducible apply R.int1
  | ((with_reducible refine R.lenL (xs := ?xs) ?h ?q); case h => walk_at "at")
  | ((with_reducible refine R.ixL (xs := ?xs) (v := ?v) ?h ?e ?q); (case h => walk_at "at"); (case e => walk_at "ix"))
  | ((with_reducible refine R.setL (xs := ?xs) (n := ?n) ?h ?e ?q); (case h => walk_at "at"); (case e => rfl))
  | ((with_reducible refine R.append (xs := ?xs) ?h ?e ?q); (case h => walk_at "at"); (case e => walk_at "cond"))
  | with_reducible apply R.is_
  | with_reducible apply R.isnot
  | with_reducible apply R.andV
  | with_reducible apply R.orV
  | with_reducible apply R.notV
  | ((with_reducible refine R.isi (s := ?s) (b := ?b) ?ty ?h ?q); (case ty => walk_at "ty"); (case h => walk_at "kit"))
  | ((with_reducible refine R.addS ?h ?q); (case h => walk_at "sz"))
  | with_reducible apply R.max2
  | with_reducible apply R.min2
  | ((with_reducible refine R.lenStr ?h ?q); (case h => walk_at "szl"))
  | ((with_reducible refine R.ixS (n := ?n) ?h ?e ?q); (case h => walk_at "szl"); (case e => walk_at "ix"))
  | ((with_reducible refine R.tyl (xs := ?xs) ?h ?q); (case h => walk_at "at"))
  | with_reducible apply R.itlist
  | with_reducible apply R.ittup
  | with_reducible apply R.m1
  | with_reducible apply R.m1s
  | with_reducible apply R.leS
  | with_reducible apply R.itstr
  | with_reducible apply R.itstrE
  | with_reducible apply R.lc
  | with_reducible apply R.lc2
  | with_reducible apply R.ckw
  | with_reducible apply R.par
  | with_reducible apply R.parE
  | with_reducible apply R.itrev
  | with_reducible apply R.dsetd
  | with_reducible apply R.dnotin_
  | with_reducible apply R.for_
  | ((with_reducible refine R.all_ (bs := ?bs) ?h ?q); (case h => walk_at "at"))
  | with_reducible apply R.rng1
  | ((with_reducible refine R.rngE ?h ?q); (case h => (constructor <;> omega)))
  | ((with_reducible refine R.lenT (xs := ?xs) ?h ?q); (case h => walk_at "sqt"))
  | ((with_reducible refine R.ixT (xs := ?xs) (v := ?v) ?h ?e ?q); (case h => walk_at "sqt"); (case e => walk_at "ix"))
  | ((refine R.itlE (xs := ?xs) ?h ?q); (case h => walk_at "at"))
  | ((refine R.ittE (xs := ?xs) ?h ?q); (case h => walk_at "at"))
  | ((refine R.gseq (xs := ?xs) ?h ?e ?q); (case h => walk_at "sqa"); (case e => rfl))
  | ((refine R.ixA (xs := ?xs) (v := ?v) ?h ?e ?q); (case h => walk_at "sqa"); (case e => walk_at "ix"))
  | ((refine R.lenA (xs := ?xs) ?h ?q); (case h => walk_at "sqa"))
  | ((with_reducible refine R.gtup (xs := ?xs) ?h ?e ?q); (case h => walk_at "sqt"); (case e => rfl))
  | with_reducible apply R.din_
  | with_reducible apply R.dput_
  | with_reducible apply R.dget2_
  | ((with_reducible refine R.aug_ (x := ?x) ?h ?q); case h => rfl)
  | with_reducible apply R.ipI_
  | with_reducible apply R.rng2
  | ((with_reducible refine R.rngE2 ?h ?q); (case h => (refine ⟨?_, ?_, ?_, ?_⟩ <;> omega)))
  | with_reducible apply R.brk
  | with_reducible apply R.intB
  | with_reducible apply R.meth_
  | ((refine KN.methS (rs := ?rs) (ms := ?ms) ?h (fun _ _ _ _ => rfl) ?q); case h => walk_at "sys")
  | with_reducible apply R.sl_
  | with_reducible apply R.np_
  | with_reducible apply R.pt_
  | with_reducible apply R.ptE
  | with_reducible apply R.dget_
  | with_reducible apply R.revL_
  | ((refine R.dgetS (kvs := ?kvs) (v := ?v) ?h ?e ?q); (case h => walk_at "at"); (case e => walk_at "dk"))
  | with_reducible apply R.sfld
  | with_reducible apply R.fld_
  | with_reducible apply R.dc
  | with_reducible apply R.dget1_
  | with_reducible apply R.itseq
  | with_reducible apply R.itenum
  | with_reducible apply R.itT
  | with_reducible apply R.itF
  | with_reducible apply R.itNT
  | with_reducible apply R.itNF
  | (with_reducible apply R.tup)
  | (with_reducible apply R.lst))
local macro_rules | `(tactic| walk_at "rd") => `(tactic| (repeat (first | walk_at "r1" | (dsimp only [Int.reduceToNat, List.set_cons_succ, List.set_cons_zero, List.length_cons, List.length_nil, List.nil_append, List.cons_append, List.append_nil]))))
local macro_rules | `(tactic| walk_at "go") => `(tactic| (rw [R.start_eq]; dsimp only [R.startE, List.map_nil]; walk_at "rd"))
namespace KN
open PySem L2 SX R
open C8 (Cal Def cal0 pe_c pe_gc fnScope fnBody pss_cut Met met0 pe_mt pe_mt0)
section
variable {P : Program} {w : World} {K : PySem.W.Frag} {mg : Str → Option Value} {base : Heap}
abbrev sMisI : Stmt := inClass (top 20) 0
theorem scMisI : FnScope ["self", "word"] ["self", "word"] (defScope sMisI) := ⟨rfl, rfl, rfl, by decide +kernel, rfl, by decide +kernel, by decide +kernel⟩
/-- what stands of an error class n, at C, whose __init__ keeps one field -/
structure E1K (K : PySem.W.Frag) (mg : Str → Option Value) (n fd : Str) (C fI : Addr) : Prop where
  oex : OexC K C
  iC : PySem.W.findIn K (.ref C) "__init__" = some (some (.ref fI))
  tI : PySem.W.typeIn K (.ref fI) = some (.type "function")
  gC : mg n = some (.ref C)
  nF : PySem.W.findIn K (.ref C) fd = some none
def spE1I (fd : Str) (C : Addr) : Sp := fun vs H Q _ => ∃ (a : Addr) (v : V), vs = [.ref a, v] ∧ H a = some (exo a C none) ∧
  ∀ dx H', H dx = none → dx ≠ a → (∀ b o, b ≠ a → H b = some o → H' b = some o) → H' a = some (exo a C (some dx)) → H' dx = some (exd dx [(fd, v)]) → Q .non H'
theorem ok_mis {n : Str} {C fI : Addr} {fd : FuncData} (T : E1K K mg n "word" C fI) (F : Fun K "__init__" "Mismatch.__init__" sMisI fI fd) : FnOk P w K mg base CX0 1 fI fd ["self", "word"] (spE1I "word" C) := by
  refine F.ok scMisI (fun vs H Q E h => ?_) (fun cdv A outer s H vs Q E hr h => ?_)
  · obtain ⟨a, v, rfl, _⟩ := h
    rfl
  · obtain ⟨a, v, rfl, ha, k⟩ := h
    refine ⟨_, pss_one (ps_ost (pv 0) (pv 1)), ?_⟩
    refine ⟨_, rfl, _, rfl, a, C, rfl, T.oex, T.nF, .inl ⟨ha, fun dx hdx nda => ?_⟩⟩
    have ad : a ≠ dx := nda.symm
    refine k dx _ hdx nda (fun b o hb e => ?_) (by first | exact upd_same | (rw [upd_ne ad]; exact upd_same)) (by first | exact upd_same | (rw [upd_ne nda]; exact upd_same))
    have bd : b ≠ dx := ne_of_none e hdx
    first | rw [upd_ne bd, upd_ne hb] | rw [upd_ne hb, upd_ne bd]
    exact e
end
theorem r_e1 {fd : Str} {C : Addr} {H1 : Hp} {v : V} {QX : XK} (k : ∀ d H', Same H1 H' → H1 d = none → H' d = some (.xd [(fd, v)]) → QX (.ref C) (some d) H') :
    [v].length ≤ 1000 ∧ ∀ a, H1 a = none → spE1I fd C (.ref a :: ([v] ++ [])) (upd H1 a (exo a C none))
      (fun v H2 => v = .non ∧ ∃ (d : Addr) (fs : List (Str × V)), H2 a = some (exo a C (some d)) ∧ H2 d = some (exd d fs) ∧ H1 d = none ∧ QX (.ref C) (some d) (upd (del H2 a) d (.xd fs))) (fun _ _ _ => False) := by
  refine ⟨by show 1 ≤ 1000; decide, fun a ha => ⟨a, v, rfl, upd_same, fun dx H' hdx nda hk h1 h2 => ⟨rfl, dx, [(fd, v)], h1, h2, ?_, ?_⟩⟩⟩
  · rw [upd_ne nda] at hdx; exact hdx
  · have hdx1 : H1 dx = none := by rw [upd_ne nda] at hdx; exact hdx
    refine k dx _ (fun b o e => ?_) hdx1 upd_same
    have bd : b ≠ dx := ne_of_none e hdx1
    have ba : b ≠ a := ne_of_none e ha
    rw [upd_ne bd, del_ne ba]
    exact hk b o ba (by rw [upd_ne ba]; exact e)
end KN
end
section
set_option Elab.async false
set_option linter.all false
set_option maxRecDepth 100000
set_option maxHeartbeats 4000000
set_option pp.maxSteps 1500
set_option pp.deepTerms false
local macro_rules | `(tactic| walk_at "ne") => `(tactic| first
  | assumption | (apply Ne.symm; assumption)
  | exact R.ne_new (by assumption) | exact (R.ne_new (by assumption)).symm
  | exact L2.ne_of_none (by assumption) (by assumption) | exact (L2.ne_of_none (by assumption) (by assumption)).symm
  | exact L2.ne_of_none (by assumption) (R.free_new (by assumption)) | exact (L2.ne_of_none (by assumption) (R.free_new (by assumption))).symm)
local macro_rules | `(tactic| walk_at "at") => `(tactic| first
  | assumption | exact L2.upd_same
  | (refine R.sb (H := ?H) (p := ?p) ?e ?n ?h; (case e => assumption); (case n => walk_at "ne"); (case h => walk_at "at"))
  | (refine R.sm (H := ?H) ?e ?h; (case e => assumption); (case h => walk_at "at"))
  | (refine Eq.trans (L2.upd_ne ?_) ?_ <;> first | walk_at "ne" | walk_at "at"))
local macro_rules | `(tactic| walk_at "sqt") => `(tactic| first | assumption | (refine L2.SqT.of ?_; walk_at "at"))
local macro_rules | `(tactic| walk_at "ty") => `(tactic| first | exact R.tyN | exact R.tyB | exact R.tyI | exact R.tyS | (refine R.tyT (xs := ?xs) ?h; case h => walk_at "at") | (refine R.tyL (xs := ?xs) ?h; case h => walk_at "at"))
local macro_rules | `(tactic| walk_at "kit") => `(tactic| first | exact R.kit_NoneType_tuple | exact R.kit_NoneType_list | exact R.kit_NoneType_bool | exact R.kit_NoneType_str | exact R.kit_NoneType_int | exact R.kit_bool_tuple | exact R.kit_bool_list | exact R.kit_bool_bool | exact R.kit_bool_str | exact R.kit_bool_int | exact R.kit_int_tuple | exact R.kit_int_list | exact R.kit_int_bool | exact R.kit_int_str | exact R.kit_int_int | exact R.kit_str_tuple | exact R.kit_str_list | exact R.kit_str_bool | exact R.kit_str_str | exact R.kit_str_int | exact R.kit_tuple_tuple | exact R.kit_tuple_list | exact R.kit_tuple_bool | exact R.kit_tuple_str | exact R.kit_tuple_int | exact R.kit_list_tuple | exact R.kit_list_list | exact R.kit_list_bool | exact R.kit_list_str | exact R.kit_list_int)
local macro_rules | `(tactic| walk_at "sz") => `(tactic| first | assumption | (refine Nat.le_trans ?_ (show 1000 ≤ PySem.sizeLine by decide); omega) | decide)
local macro_rules | `(tactic| walk_at "szl") => `(tactic| first | assumption | exact Nat.le_of_lt (L2.small1000 (by omega)) | decide | decide +kernel)
local macro_rules | `(tactic| walk_at "sys") => `(tactic| first | assumption | exact KN.SysAt.same (by assumption) (by assumption))
local macro_rules | `(tactic| walk_at "dk") => `(tactic| first | exact R.rowsS _ _ | exact R.rowsM _ _)
local macro_rules | `(tactic| walk_at "sqa") => `(tactic| first | assumption | exact R.SeqA.same (by assumption) (by assumption) | exact R.SeqA.new (by assumption) (by assumption) | (exact Or.inl (by walk_at "at")) | (exact Or.inr (by walk_at "at")))
local macro_rules | `(tactic| walk_at "ix") => `(tactic| first | rfl | (exact L2.atI_nat (by assumption)) | assumption)
local macro_rules | `(tactic| walk_at "cond") => `(tactic| first
  | exact Or.inl (by decide) | exact Or.inr (by decide) | exact Or.inl ⟨by omega, by omega⟩ | exact Or.inr ⟨by omega, by omega⟩
  | (constructor <;> omega) | (show _ ≠ _; omega) | decide | omega)
local macro_rules | `(tactic| walk_at "r1") => `(tactic| first
  | ((with_reducible refine R.var (v := ?v) ?h ?q); case h => rfl)
  | with_reducible apply R.cons
  | with_reducible apply R.c
  | with_reducible apply R.nil
  | with_reducible apply R.op
  | with_reducible apply R.gname
  | with_reducible apply R.seq
  | with_reducible apply R.call
  | with_reducible apply R.asg
  | with_reducible apply R.ex
  | with_reducible apply R.tst
  | with_reducible apply R.i0
  | with_reducible apply R.ifs
  | with_reducible apply R.ret
  | with_reducible apply R.retN
  | with_reducible apply R.drop
  | with_reducible apply R.next
  | with_reducible apply R.tb_
  | with_reducible apply R.eqI
  | with_reducible apply R.neI
  | ((with_reducible refine R.ic ?_ ?_); · walk_at "cond")
  | with_reducible apply R.u0
  | with_reducible apply R.un
  | ((with_reducible refine R.eq ?_ ?_); · rfl)
  | ((with_reducible refine R.ne ?_ ?_); · rfl)
  | with_reducible apply R.and_
  | with_reducible apply R.or_
  | with_reducible apply R.not_
  | with_reducible apply R.ife
  | with_reducible apply R.chain
  | with_reducible apply R.cb
  | with_reducible apply R.bm
  | with_reducible apply R.gsub
  | with_reducible apply R.gnil
  | with_reducible apply R.gcons
  | with_reducible apply R.yes
  | with_reducible apply R.int1
  | ((with_reducible refine R.lenL (xs := ?xs) ?h ?q); case h => walk_at "at")
  | ((with_reducible refine R.ixL (xs := ?xs) (v := ?v) ?h ?e ?q); (case h => walk_at "at"); (case e => walk_at "ix"))
  | ((with_reducible refine R.setL (xs := ?xs) (n := ?n) ?h ?e ?q); (case h => walk_at "at"); (case e => rfl))
  | ((with_reducible refine R.append (xs := ?xs) ?h ?e ?q); (case h => walk_at "at"); (case e => walk_at "cond"))
  | with_reducible apply R.is_
  | with_reducible apply R.isnot
  | with_reducible apply R.andV
  | with_reducible apply R.orV
  | with_reducible apply R.notV
  | ((with_reducible refine R.isi (s := ?s) (b := ?b) ?ty ?h ?q); (case ty => walk_at "ty"); (case h => walk_at "kit"))
  | ((with_reducible refine R.addS ?h ?q); (case h => walk_at "sz"))
  | with_reducible apply R.max2
  | with_reducible apply R.min2
  | ((with_reducible refine R.lenStr ?h ?q); (case h => walk_at "szl"))
  | ((with_reducible refine R.ixS (n := ?n) ?h ?e ?q); (case h => walk_at "szl"); (case e => walk_at "ix"))
  | ((with_reducible refine R.tyl (xs := ?xs) ?h ?q); (case h => walk_at "at"))
  | with_reducible apply R.itlist
  | with_reducible apply R.ittup
  | with_reducible apply R.m1
  | with_reducible apply R.m1s
  | with_reducible apply R.leS
  | with_reducible apply R.itstr
  | with_reducible apply R.itstrE
  | with_reducible apply R.lc
  | with_reducible apply R.lc2
  | with_reducible apply R.ckw
  | with_reducible apply R.par
  | with_reducible apply R.parE
  | with_reducible apply R.itrev
  | with_reducible apply R.dsetd
  | with_reducible apply R.dnotin_
  | with_reducible apply R.for_
  | ((with_reducible refine R.all_ (bs := ?bs) ?h ?q); (case h => walk_at "at"))
  | with_reducible apply R.rng1
  | ((with_reducible refine R.rngE ?h ?q); (case h => (constructor <;> omega)))
  | ((with_reducible refine R.lenT (xs := ?xs) ?h ?q); (case h => walk_at "sqt"))
  | ((with_reducible refine R.ixT (xs := ?xs) (v := ?v) ?h ?e ?q); (case h => walk_at "sqt"); (case e => walk_at "ix"))
  | ((refine R.itlE (xs := ?xs) ?h ?q); (case h => walk_at "at"))
  | ((refine R.ittE (xs := ?xs) ?h ?q); (case h => walk_at "at"))
  | ((refine R.gseq (xs := ?xs) ?h ?e ?q); (case h => walk_at "sqa"); (case e => rfl))
  | ((refine R.ixA (xs := ?xs) (v := ?v) ?h ?e ?q); (case h => walk_at "sqa"); (case e => walk_at "ix"))
  | ((refine R.lenA (xs := ?xs) ?h ?q); (case h => walk_at "sqa"))
  | ((with_reducible refine R.gtup (xs := ?xs) ?h ?e ?q); (case h => walk_at "sqt"); (case e => rfl))
  | with_reducible apply R.din_
  | with_reducible apply R.dput_
  | with_reducible apply R.dget2_
  | ((with_reducible refine R.aug_ (x := ?x) ?h ?q); case h => rfl)
  | with_reducible apply R.ipI_
  | with_reducible apply R.rng2
  | ((with_reducible refine R.rngE2 ?h ?q); (case h => (refine ⟨?_, ?_, ?_, ?_⟩ <;> omega)))
  | with_reducible apply R.brk
  | with_reducible apply R.intB
  | with_reducible apply R.meth_
  | ((refine KN.methS (rs := ?rs) (ms := ?ms) ?h (fun _ _ _ _ => rfl) ?q); case h => walk_at "sys")
  | with_reducible apply R.sl_
  | with_reducible apply R.np_
  | with_reducible apply R.pt_
  | with_reducible apply R.ptE
  | with_reducible apply R.dget_
  | with_reducible apply R.revL_
  | ((refine R.dgetS (kvs := ?kvs) (v := ?v) ?h ?e ?q); (case h => walk_at "at"); (case e => walk_at "dk"))
  | with_reducible apply R.sfld
  | with_reducible apply R.fld_
  | with_reducible apply R.dc
  | with_reducible apply R.dget1_
  | with_reducible apply R.itseq
  | with_reducible apply R.itenum
  | with_reducible apply R.itT
  | with_reducible apply R.itF
  | with_reducible apply R.itNT
  | with_reducible apply R.itNF
  | (with_reducible apply R.tup)
  | (with_reducible apply R.lst))
local macro_rules | `(tactic| walk_at "rd") => `(tactic| (repeat (first | walk_at "r1" | (dsimp only [Int.reduceToNat, List.set_cons_succ, List.set_cons_zero, List.length_cons, List.length_nil, List.nil_append, List.cons_append, List.append_nil]))))
local macro_rules | `(tactic| walk_at "go") => `(tactic| (rw [R.start_eq]; dsimp only [R.startE, List.map_nil]; walk_at "rd"))
local macro_rules | `(tactic| walk_at "r1") => `(tactic| first | with_reducible apply R.callN | with_reducible apply R.tr_ | with_reducible apply R.rng3 | with_reducible apply R.bits | with_reducible apply R.dnewT)
-- RTX
namespace KN
open PySem L2 SX R
open C8 (Cal Def cal0 pe_c pe_gc fnScope fnBody pss_cut Met pe_mt pe_mt0)
section
variable {P : Program} {w : World} {K : PySem.W.Frag} {mg : Str → Option Value} {base : Heap}
abbrev sLesc : Stmt := top 22
theorem scLesc : FnScope ["one", "other"] ["one", "other"] (fnScope sLesc) := ⟨rfl, rfl, rfl, by decide +kernel, rfl, by decide +kernel, by decide +kernel⟩
abbrev sCmul : Stmt := top 23
theorem scCmul : FnScope ["row", "other", "word", "value", "most", "unsaid", "rest", "_", "other_most", "other_unsaid", "other_rest", "least"] ["row", "other"] (fnScope sCmul) := ⟨rfl, rfl, rfl, by decide +kernel, rfl, by decide +kernel, by decide +kernel⟩
abbrev sCsys : Stmt := top 24
theorem scCsys : FnScope ["first", "second", "word", "simple", "pairs", "rows", "row", "other"] ["first", "second"] (fnScope sCsys) := ⟨rfl, rfl, rfl, by decide +kernel, rfl, by decide +kernel, by decide +kernel⟩
/-- a multiplier of a common system -/
structure CM where
  w : Str
  v : Int
  l : Int
  c : Option Int
  u : Bool
  r : Int
def cmV (m : CM) : List V := [.str m.w, .int m.v, .int m.l, ocnt m.c, .bl m.u, .int m.r]
def lesserC : Option Int → Option Int → Option Int
  | none, b => b
  | some a, none => some a
  | some a, some b => some (if b < a then b else a)
def comM (a b : MR) : CM := ⟨a.w, a.v, if a.u = b.u then 1 else 2, lesserC a.c b.c, a.u && b.u, if b.r < a.r then b.r else a.r⟩
def comS (rs rs' : List SR) : List SR := rs.filter fun r => (svL rs' r.w).isSome
def comL (ms ms' : List MR) : List CM := ms.filterMap fun m => (mvL ms' m.w).map (comM m)
def spLesc : Sp := fun vs H Q _ => ∃ a b : Option Int, vs = [ocnt a, ocnt b] ∧ Q (ocnt (lesserC a b)) H
theorem c_lesc (Z : Zs mg) {f : Addr} {fd : FuncData} (F : Def K mg "lesser_count" sLesc f fd) (b : Binds K fd ["one", "other"] []) : Cal P w K mg base 1 "lesser_count" spLesc [] := by
  refine cal0 F b .nil scLesc (fun vs H Q E h => ?_) (fun cdv A outer s H vs Q E hr h => ?_)
  · obtain ⟨a, b, rfl, _⟩ := h
    rfl
  · obtain ⟨a, b, rfl, k⟩ := h
    refine ⟨_, pss_cons (ps_if (PW.pt (pw_or (pt_cmpR oIs (pv 0) pe_non (nomark _)) (pw_or1 (pt_cmpR oIs (pv 1) pe_non (nomark _)))))
        (pss_one (ps_ret (pe_ifExp (pt_cmpR oIs (pv 0) pe_non (nomark _)) (pv 1) (pv 0))))
        (pss_nil))
      (pss_one (ps_ret (pe_callB kMin2 (by rfl) Z.min (by decide +kernel) (pa_cons (pv 0) (pa_cons (pv 1) pa_nil))))), ?_⟩
    walk_at "go"
    cases a with
    | none =>
      refine itY rfl ?_
      walk_at "rd"
      refine itY rfl ?_
      walk_at "rd"
      exact k
    | some a =>
      refine itN (fun q => nomatch (show V.int a = V.non from q)) ?_
      walk_at "rd"
      cases b with
      | none =>
        refine itY rfl ?_
        walk_at "rd"
        refine itN (fun q => nomatch (show V.int a = V.non from q)) ?_
        walk_at "rd"
        exact k
      | some b =>
        refine itN (fun q => nomatch (show V.int b = V.non from q)) ?_
        rw [show ocnt (some a) = V.int a from rfl, show ocnt (some b) = V.int b from rfl]
        walk_at "rd"
        exact k
def spCmul : Sp := fun vs H Q _ => ∃ (p q : Addr) (a b : MR), vs = [.ref p, .ref q] ∧ H p = some (.tup (mrV a)) ∧ H q = some (.tup (mrV b)) ∧ ∀ H' t, Same H H' → H t = none → H' t = some (.tup (cmV (comM a b))) → Q (.ref t) H'
theorem c_cmul (Z : Zs mg) (c_lesser_count : Cal P w K mg base 1 "lesser_count" spLesc []) {f : Addr} {fd : FuncData} (F : Def K mg "common_multiplier" sCmul f fd) (b : Binds K fd ["row", "other"] []) : Cal P w K mg base 2 "common_multiplier" spCmul [] := by
  refine cal0 F b .nil scCmul (fun vs H Q E h => ?_) (fun cdv A outer s H vs Q E hr h => ?_)
  · obtain ⟨p, q, a, b, rfl, _⟩ := h
    rfl
  · obtain ⟨p, q, a, b, rfl, hp, hq, k⟩ := h
    refine ⟨_, pss_cons (ps_asg (pv 0) (kgTup K (n := 5) rfl (pgs_cons (pg_name (i := 2) scCmul.nd rfl (Or.inl rfl)) (pgs_cons (pg_name (i := 3) scCmul.nd rfl (Or.inl rfl)) (pgs_cons (pg_name (i := 4) scCmul.nd rfl (Or.inl rfl)) (pgs_cons (pg_name (i := 5) scCmul.nd rfl (Or.inl rfl)) (pgs_cons (pg_name (i := 6) scCmul.nd rfl (Or.inl rfl)) pgs_nil)))))))
      (pss_cons (ps_asg (pv 1) (kgTup K (n := 5) rfl (pgs_cons (pg_name (i := 7) scCmul.nd rfl (Or.inl rfl)) (pgs_cons (pg_name (i := 7) scCmul.nd rfl (Or.inl rfl)) (pgs_cons (pg_name (i := 8) scCmul.nd rfl (Or.inl rfl)) (pgs_cons (pg_name (i := 9) scCmul.nd rfl (Or.inl rfl)) (pgs_cons (pg_name (i := 10) scCmul.nd rfl (Or.inl rfl)) pgs_nil)))))))
      (pss_cut (ps_set (i := 11) scCmul.nd rfl (Or.inl rfl) (pe_ifExp (pt_cmpR op_eq (pv 5) (pv 9) (nomark _)) pe_int pe_int))
      (pss_one (ps_ret (pe_tup (pa_cons (pv 2) (pa_cons (pv 3) (pa_cons (pv 11) (pa_cons (pe_c c_lesser_count hr (by omega) (by rfl) (pa_cons (pv 4) (pa_cons (pv 8) pa_nil))) (pa_cons (pe_and (pv 5) (pe_one (pv 9))) (pa_cons (pe_callB kMin2 (by rfl) Z.min (by decide +kernel) (pa_cons (pv 6) (pa_cons (pv 10) pa_nil))) pa_nil))))))))))), ?_⟩
    obtain ⟨aw, av, ac, au, ar⟩ := a
    obtain ⟨bw, bv, bc, bu, br⟩ := b
    replace hp : H p = some (.tup [.str aw, .int av, ocnt ac, .bl au, .int ar]) := hp
    replace hq : H q = some (.tup [.str bw, .int bv, ocnt bc, .bl bu, .int br]) := hq
    walk_at "go"
    refine R.cut (fun σ' H' => ∃ q5, σ' = [some (.ref p), some (.ref q), some (.str aw), some (.int av), some (ocnt ac), some (.bl au), some (.int ar), q5, some (ocnt bc), some (.bl bu), some (.int br), some (.int (if au = bu then 1 else 2))] ∧ H' = H) ?_ ?_
    · walk_at "rd"
      refine it (fun h1 => ?_) (fun h1 => ?_)
      · walk_at "rd"
        exact ⟨some (.int bv), by rw [if_pos (L2.V.bl.inj h1)]; rfl, rfl⟩
      · walk_at "rd"
        exact ⟨some (.int bv), by rw [if_neg (fun e => h1 (by rw [e]))]; rfl, rfl⟩
    · rintro σ1 H1 ⟨q5, rfl, rfl⟩
      walk_at "rd"
      refine ⟨ac, bc, rfl, ?_⟩
      walk_at "rd"
      have fin : ∀ u : Bool, u = (au && bu) → [V.str aw, .int av, .int (if au = bu then 1 else 2), ocnt (lesserC ac bc), .bl u, .int (if br < ar then br else ar)].length ≤ sizeLine ∧ ∀ t, H1 t = none → Q (.ref t) (upd H1 t (.tup [.str aw, .int av, .int (if au = bu then 1 else 2), ocnt (lesserC ac bc), .bl u, .int (if br < ar then br else ar)])) := fun u hu => ⟨by show 6 ≤ sizeLine; decide, fun t ht => k _ t (same_new (Same.refl _) ht) ht (by rw [upd_same, hu]; rfl)⟩
      cases au with
      | true =>
        walk_at "rd"
        exact fin bu rfl
      | false =>
        walk_at "rd"
        exact fin false rfl
/-- the multipliers of the first system with those of the second one -/
def PaAt (H : Hp) (acc : List V) (ms ms' : List MR) : Prop := acc.length = ms.length ∧ ∀ (i : Nat) (m : MR), ms[i]? = some m → ∃ t b ov, acc[i]? = some (.ref t) ∧ H t = some (.tup [.ref b, ov]) ∧ H b = some (.tup (mrV m)) ∧
  ((ov = .non ∧ mvL ms' m.w = none) ∨ ∃ c m', ov = .ref c ∧ H c = some (.tup (mrV m')) ∧ mvL ms' m.w = some m')
theorem PaAt.keep {H H' : Hp} {acc : List V} {ms ms' : List MR} (k : TupKeep H H') (h : PaAt H acc ms ms') : PaAt H' acc ms ms' := ⟨h.1, fun i m hm => by
  obtain ⟨t, b, ov, a1, a2, a3, a4⟩ := h.2 i m hm
  exact ⟨t, b, ov, a1, k _ _ a2, k _ _ a3, a4.imp id fun ⟨c, m', b1, b2, b3⟩ => ⟨c, m', b1, k _ _ b2, b3⟩⟩⟩
theorem PaAt.snoc {H : Hp} {acc : List V} {ms ms' : List MR} (h : PaAt H acc ms ms') {m : MR} {t b : Addr} {ov : V} (h1 : H t = some (.tup [.ref b, ov])) (h2 : H b = some (.tup (mrV m))) (h3 : (ov = .non ∧ mvL ms' m.w = none) ∨ ∃ c m', ov = .ref c ∧ H c = some (.tup (mrV m')) ∧ mvL ms' m.w = some m') : PaAt H (acc ++ [.ref t]) (ms ++ [m]) ms' := by
  refine ⟨by rw [List.length_append, List.length_append, h.1]; rfl, fun i q hq => ?_⟩
  by_cases z : i < ms.length
  · rw [List.getElem?_append_left z] at hq
    obtain ⟨t, b, ov, a1, a2⟩ := h.2 i q hq
    exact ⟨t, b, ov, by rw [List.getElem?_append_left (by rw [h.1]; exact z)]; exact a1, a2⟩
  · rw [List.getElem?_append_right (by omega)] at hq
    have e : i - ms.length = 0 := by
      cases k : i - ms.length with
      | zero => rfl
      | succ k' => rw [k] at hq; cases hq
    rw [e] at hq
    cases hq
    exact ⟨t, b, ov, by rw [List.getElem?_append_right (by rw [h.1]; omega), h.1, e]; rfl, h1, h2, h3⟩
def spCsys (S CE : Addr) : Sp := fun vs H Q E => ∃ (x y : Addr) (rs rs' : List SR) (ms ms' : List MR), vs = [.ref x, .ref y] ∧ SysAt S H x rs ms ∧ SysAt S H y rs' ms' ∧ GoodSys rs ms ∧ GoodSys rs' ms' ∧
  ((oddF rs ms rs' ms' = none ∧ ∀ H' t t1 t2 xs1 xs2, Same H H' → H' t = some (.tup [.ref t1, .ref t2]) → H' t1 = some (.tup xs1) → TupsAt H' xs1 ((comS rs rs').map srV) → H' t2 = some (.tup xs2) → TupsAt H' xs2 ((comL ms ms').map cmV) → Q (.ref t) H') ∨
    (∃ z, oddF rs ms rs' ms' = some z ∧ ∀ d H', Same H H' → H' d = some (.xd [("word", .str z)]) → E (.ref CE) (some d) H'))
theorem c_csys {S CE fE : Addr} {fdE : FuncData} (Z : Zs mg) (TS : SysK K S) (EX : E1K K mg "Mismatch" "word" CE fE) (GX : FnOk P w K mg base CX0 1 fE fdE ["self", "word"] (spE1I "word" CE)) (bX : Binds K fdE ["self", "word"] [])
    (m_simple_value : Met P w K mg base 1 S "simple_value" (spSv S) []) (m_multiplier : Met P w K mg base 1 S "multiplier" (spMl S) []) (c_mismatch : Cal P w K mg base 2 "mismatch" (spMism S) []) (c_common_multiplier : Cal P w K mg base 2 "common_multiplier" spCmul [])
    {f : Addr} {fd : FuncData} (F : Def K mg "common_system" sCsys f fd) (b : Binds K fd ["first", "second"] []) : CalX P w K mg base 3 "common_system" (spCsys S CE) := by
  refine calX0 F b scCsys (fun vs H Q E h => ?_) (fun cdv A outer s H vs Q E hr h => ?_)
  · obtain ⟨x, y, rs, rs', ms, ms', rfl, _⟩ := h
    rfl
  · obtain ⟨x, y, rs, rs', ms, ms', rfl, hX, hY, hg, hg', k⟩ := h
    refine ⟨_, pss_cons (ps_set (i := 2) scCsys.nd rfl (Or.inl rfl) (pe_c c_mismatch hr (by omega) (by rfl) (pa_cons (pv 0) (pa_cons (pv 1) pa_nil))))
      (pss_cons (ps_if (pt_cmpR oIsNot (pv 2) pe_non (nomark _))
        (pss_one (ps_raise rfl (takes_of rfl rfl rfl rfl) (pmk_oex EX.oex EX.iC EX.tI GX (hr.mono (by omega)) bX .nil pass0 rfl EX.gC (pa_cons (pv 2) pa_nil))))
        (pss_nil))
      (pss_cons (ps_setLc (i := 3) (own := [("row", 6)]) (g := gName 6) rfl scCsys.nd rfl rfl (sw_true rfl rfl rfl (by decide +kernel)) (kiT K (kFld K (pv 0))) (blkOk_by (own := [("row", 6)]) (N := ["first", "second", "word", "simple", "pairs", "rows", "row", "other"]) (sc := fnScope sCsys) (by decide +kernel)) (fun _ _ _ _ _ => (pg_name (i := 6) scCsys.nd rfl (Or.inl rfl))) (fun _ _ _ _ _ => pts_one (pt_cmpR oIsNot (pe_mt m_simple_value hr (by omega) (pv 1) (pa_cons (pe_ix (kIxT K) (pv 6) pe_int (fun _ _ => rfl)) pa_nil)) pe_non (nomark _))) (fun _ _ _ _ _ => pv 6))
      (pss_cons (ps_setLc (i := 4) (own := [("row", 6)]) (g := gName 6) (tt := tYes) rfl scCsys.nd rfl rfl (sw_true rfl rfl rfl (by decide +kernel)) (kiT K (kFld K (pv 0))) (blkOk_by (own := [("row", 6)]) (N := ["first", "second", "word", "simple", "pairs", "rows", "row", "other"]) (sc := fnScope sCsys) (by decide +kernel)) (fun _ _ _ _ _ => (pg_name (i := 6) scCsys.nd rfl (Or.inl rfl))) (fun _ _ _ _ _ => pts_nil) (fun _ _ _ _ _ => pe_tup (pa_cons (pv 6) (pa_cons (pe_mt m_multiplier hr (by omega) (pv 1) (pa_cons (pe_ix (kIxT K) (pv 6) pe_int (fun _ _ => rfl)) pa_nil)) pa_nil))))
      (pss_cons (ps_setLc (i := 5) (own := [("row", 6), ("other", 7)]) rfl scCsys.nd rfl rfl (sw_true rfl rfl rfl (by decide +kernel)) (kiL K (pv 4)) (blkOk_by (own := [("row", 6), ("other", 7)]) (N := ["first", "second", "word", "simple", "pairs", "rows", "row", "other"]) (sc := fnScope sCsys) (by decide +kernel)) (fun _ _ _ _ _ => (kgTup K (n := 2) rfl (pgs_cons (pg_name (i := 6) scCsys.nd rfl (Or.inl rfl)) (pgs_cons (pg_name (i := 7) scCsys.nd rfl (Or.inl rfl)) pgs_nil)))) (fun _ _ _ _ _ => pts_one (pt_cmpR oIsNot (pv 7) pe_non (nomark _))) (fun _ _ _ _ _ => pe_c c_common_multiplier hr (by omega) (by rfl) (pa_cons (pv 6) (pa_cons (pv 7) pa_nil))))
      (pss_one (ps_ret (pe_tup (pa_cons (pe_callTy (kTuple K) (by rfl) Z.tuple (by decide +kernel) (pa_cons (pv 3) pa_nil)) (pa_cons (pe_callTy (kTuple K) (by rfl) Z.tuple (by decide +kernel) (pa_cons (pv 5) pa_nil)) pa_nil))))))))), ?_⟩
    have sl := hg.sl
    have ml := hg.ml
    walk_at "go"
    refine ⟨x, y, rs, rs', ms, ms', rfl, hX, hY, hg, hg', fun H1 s1 => ?_⟩
    rcases k with ⟨ho, k⟩ | ⟨z, ho, k⟩
    · rw [ho]
      have X1 := hX.same s1
      have Y1 := hY.same s1
      walk_at "rd"
      refine inoY rfl ?_
      walk_at "rd"
      obtain ⟨dx, sA, mA, v, r, xs, ys, hx, hs, hts, hm, htm, hv, hrr⟩ := id X1
      have lx := hts.len
      have ly := htm.len
      rw [List.length_map] at lx ly
      refine R.fldE hx TS.cl TS.nS rfl ?_
      refine ⟨sA, rfl, ⟨_, SqT.of hs⟩, fun D hD => ?_⟩
      refine lc_it (walk_tup (K := K) (a := sA) (xs := xs)) (fun i H' => Same H1 H' ∧ ∃ acc, H' D = some (.lst acc) ∧ TupsAt H' acc ((comS (rs.take i) rs').map srV)) ⟨same_new (Same.refl _) hD, [], upd_same, .nil⟩ (fun i H' _ hh => SqT.of (hh.1 _ _ hs)) ?_ ?_
      · rintro i u H2 H2' hi ⟨s2, acc, h2, T2⟩ ⟨rfl, hu⟩
        have hri : rs[i]? = some rs[i] := List.getElem?_eq_getElem (by omega)
        obtain ⟨b, hya, hb⟩ := hts.get i (srV rs[i]) (by rw [List.getElem?_map, hri]; rfl)
        rw [hya] at hu
        cases hu
        have et : rs.take (i + 1) = rs.take i ++ [rs[i]] := by rw [List.take_add_one, hri]; rfl
        have cl : (comS (rs.take i) rs').length ≤ i := by
          unfold comS
          refine Nat.le_trans (List.length_filter_le _ _) ?_
          rw [List.length_take]
          omega
        have al := T2.len
        rw [List.length_map] at al
        have es : comS (rs.take (i + 1)) rs' = comS (rs.take i) rs' ++ (if (svL rs' rs[i].w).isSome = true then [rs[i]] else []) := by
          unfold comS
          rw [et, List.filter_append]
          congr 1
          by_cases h : (svL rs' rs[i].w).isSome = true
          · rw [if_pos h, List.filter_cons_of_pos (by exact h)]; rfl
          · rw [if_neg h, List.filter_cons_of_neg (by exact h)]; rfl
        rw [es]
        generalize rs[i] = rr at *
        have hb2 : H2' b = some (.tup [.str rr.w, .int rr.v]) := s2 _ _ hb
        have Y2 := Y1.same s2
        refine R.gname ⟨rfl, ?_⟩
        walk_at "rd"
        refine r_svL Y2 ?_
        cases hv' : svL rs' rr.w with
        | none =>
          walk_at "rd"
          refine inoY rfl ?_
          rw [if_neg (show ¬ ((none : Option Int).isSome = true) from Bool.false_ne_true), List.append_nil]
          exact ⟨s2, acc, h2, T2⟩
        | some v' =>
          walk_at "rd"
          refine inoN (fun z => nomatch z) ?_
          walk_at "rd"
          rw [if_pos (show (some v').isSome = true from rfl), List.map_append]
          exact ⟨acc, h2, small1000 (by omega), same_put s2 hD, _, upd_same, (T2.keep (keep_list h2)).snoc (keep_list h2 _ _ hb2)⟩
      · rintro H2 ⟨s2, acc, h2, T2⟩
        rw [lx, List.take_of_length_le (Nat.le_refl _)] at T2
        have hx2 := s2 _ _ hx
        have hm2 := s2 _ _ hm
        have Y2 := Y1.same s2
        walk_at "rd"
        refine R.fldE hx2 TS.cl TS.nM rfl ?_
        refine ⟨mA, rfl, ⟨_, SqT.of hm2⟩, fun D2 hD2 => ?_⟩
        refine lc_it (walk_tup (K := K) (a := mA) (xs := ys)) (fun i H' => Same H2 H' ∧ ∃ ac, H' D2 = some (.lst ac) ∧ PaAt H' ac (ms.take i) ms') ⟨same_new (Same.refl _) hD2, [], upd_same, rfl, fun i m h => nomatch h⟩ (fun i H' _ hh => SqT.of (hh.1 _ _ hm2)) ?_ ?_
        · rintro i u H3 H3' hi ⟨s3, ac, h3, P3⟩ ⟨rfl, hu⟩
          have hri : ms[i]? = some ms[i] := List.getElem?_eq_getElem (by omega)
          obtain ⟨b, hya, hb⟩ := htm.get i (mrV ms[i]) (by rw [List.getElem?_map, hri]; rfl)
          rw [hya] at hu
          cases hu
          have et : ms.take (i + 1) = ms.take i ++ [ms[i]] := by rw [List.take_add_one, hri]; rfl
          have al := P3.1
          rw [List.length_take] at al
          rw [et]
          generalize ms[i] = mm at *
          have hb3 : H3' b = some (.tup (mrV mm)) := s3 _ _ (s2 _ _ hb)
          have hb3' := hb3
          unfold mrV at hb3'
          have Y3 := Y2.same s3
          have put : ∀ (ov : V), ((ov = .non ∧ mvL ms' mm.w = none) ∨ ∃ c m', ov = .ref c ∧ H3' c = some (.tup (mrV m')) ∧ mvL ms' mm.w = some m') → ∀ (t : Addr), H3' t = none → ∃ acc', upd H3' t (.tup [.ref b, ov]) D2 = some (.lst acc') ∧ acc'.length < sizeLine ∧ Same H2 (upd (upd H3' t (.tup [.ref b, ov])) D2 (.lst (acc' ++ [.ref t]))) ∧ ∃ ac', upd (upd H3' t (.tup [.ref b, ov])) D2 (.lst (acc' ++ [.ref t])) D2 = some (.lst ac') ∧ PaAt (upd (upd H3' t (.tup [.ref b, ov])) D2 (.lst (acc' ++ [.ref t]))) ac' (ms.take i ++ [mm]) ms' := fun ov hov t ht => by
            have sn : Same H3' (upd H3' t (.tup [.ref b, ov])) := same_new (Same.refl _) ht
            have hn : upd H3' t (.tup [.ref b, ov]) t = some (.tup [.ref b, ov]) := upd_same
            have h3n := sn _ _ h3
            refine ⟨ac, h3n, small1000 (by omega), same_put (s3.trans sn) hD2, _, upd_same, ?_⟩
            have kp : TupKeep H3' (upd (upd H3' t (.tup [.ref b, ov])) D2 (.lst (ac ++ [.ref t]))) := fun a x h => keep_list h3n _ _ (sn _ _ h)
            exact (P3.keep kp).snoc (keep_list h3n _ _ hn) (kp _ _ hb3) (hov.imp id fun ⟨c, m', q1, q2, q3⟩ => ⟨c, m', q1, kp _ _ q2, q3⟩)
          refine R.gname ⟨rfl, ?_⟩
          walk_at "rd"
          refine r_mlL Y3 hg' (fun m' a he ha => ?_) (fun he => ?_)
          · walk_at "rd"
            exact ⟨by decide, fun t ht => put _ (.inr ⟨a, m', rfl, ha, he⟩) t ht⟩
          · walk_at "rd"
            exact ⟨by decide, fun t ht => put _ (.inl ⟨rfl, he⟩) t ht⟩
        · rintro H3 ⟨s3, ac, h3, P3⟩
          rw [ly, List.take_of_length_le (Nat.le_refl _)] at P3
          have hD3 := s3 _ _ h2
          have T3 := T2.keep (fun a x h => s3 _ _ h)
          have pl := P3.1
          walk_at "rd"
          intro D3 hD3n
          refine lc_it (walk_list (K := K) (a := D2) (xs := ac)) (fun i H' => Same H3 H' ∧ ∃ ac', H' D3 = some (.lst ac') ∧ TupsAt H' ac' ((comL (ms.take i) ms').map cmV)) ⟨same_new (Same.refl _) hD3n, [], upd_same, .nil⟩ (fun i H' _ hh => SqL.of (hh.1 _ _ h3)) ?_ ?_
          · rintro i u H4 H4' hi ⟨s4, ac', h4, T4⟩ ⟨rfl, hu⟩
            have hri : ms[i]? = some ms[i] := List.getElem?_eq_getElem (by omega)
            obtain ⟨t, b, ov, a1, a2, a3, a4⟩ := P3.2 i _ hri
            rw [a1] at hu
            cases hu
            have et : ms.take (i + 1) = ms.take i ++ [ms[i]] := by rw [List.take_add_one, hri]; rfl
            have cl : (comL (ms.take i) ms').length ≤ i := by
              unfold comL
              refine Nat.le_trans (List.length_filterMap_le _ _) ?_
              rw [List.length_take]
              omega
            have al := T4.len
            rw [List.length_map] at al
            have es : comL (ms.take (i + 1)) ms' = comL (ms.take i) ms' ++ (match mvL ms' ms[i].w with | some m' => [comM ms[i] m'] | none => []) := by
              unfold comL
              rw [et, List.filterMap_append]
              congr 1
              rw [List.filterMap_cons]
              cases mvL ms' ms[i].w <;> rfl
            rw [es]
            generalize ms[i] = mm at *
            have a24 := s4 _ _ a2
            have a34 := s4 _ _ a3
            refine R.gtup (SqT.of a24) rfl ?_
            refine R.gcons ?_
            refine R.gname ?_
            refine R.gcons ?_
            refine R.gname ?_
            refine R.gnil ⟨rfl, ?_⟩
            walk_at "rd"
            rcases a4 with ⟨rfl, he⟩ | ⟨c, m', rfl, hc, he⟩
            · refine inoY rfl ?_
              rw [he]
              dsimp only
              rw [List.append_nil]
              exact ⟨s4, ac', h4, T4⟩
            · refine inoN (fun z => nomatch z) ?_
              rw [he]
              dsimp only
              walk_at "rd"
              refine ⟨b, c, mm, m', rfl, a34, s4 _ _ hc, fun H5 t5 s5 n5 h5 => ?_⟩
              have h45 := s5 _ _ h4
              rw [List.map_append]
              exact ⟨ac', h45, small1000 (by omega), same_put (s4.trans s5) hD3n, _, upd_same, ((T4.keep fun a x h => s5 _ _ h).keep (keep_list h45)).snoc (keep_list h45 _ _ h5)⟩
          · rintro H4 ⟨s4, ac', h4, T4⟩
            rw [pl, List.take_of_length_le (Nat.le_refl _)] at T4
            have hD4 := s4 _ _ hD3
            have T34 := T3.keep (fun a x h => s4 _ _ h)
            walk_at "rd"
            refine R.tupL hD4 fun u1 hu1 => R.gen hu1 fun H5 s5 h5 => ?_
            have h45 := s5 _ _ h4
            walk_at "rd"
            refine R.tupL h45 fun u2 hu2 => R.gen hu2 fun H6 s6 h6 => ?_
            walk_at "rd"
            have s46 := s5.trans s6
            have s06 := (((s1.trans s2).trans s3).trans s4).trans s46
            exact ⟨by decide, fun t ht => by
              have sn : Same H6 (upd H6 t (.tup [.ref u1, .ref u2])) := same_new (Same.refl _) ht
              exact k _ t u1 u2 acc ac' (s06.trans sn) upd_same (sn _ _ (s6 _ _ h5)) ((T34.keep fun a x h => s46 _ _ h).keep fun a x h => sn _ _ h) (sn _ _ h6) ((T4.keep fun a x h => s46 _ _ h).keep fun a x h => sn _ _ h)⟩
    · rw [ho]
      walk_at "rd"
      refine inoN (fun q => nomatch q) ?_
      walk_at "rd"
      unfold tMkO
      walk_at "rd"
      exact r_e1 fun d H' s2 _ h2 => k d H' (s1.trans s2) h2
end
end KN
end
section
set_option Elab.async false
set_option linter.all false
set_option maxRecDepth 100000
set_option maxHeartbeats 4000000
set_option pp.maxSteps 1500
set_option pp.deepTerms false
local macro_rules | `(tactic| walk_at "ne") => `(tactic| first
  | assumption | (apply Ne.symm; assumption)
  | exact R.ne_new (by assumption) | exact (R.ne_new (by assumption)).symm
  | exact L2.ne_of_none (by assumption) (by assumption) | exact (L2.ne_of_none (by assumption) (by assumption)).symm
  | exact L2.ne_of_none (by assumption) (R.free_new (by assumption)) | exact (L2.ne_of_none (by assumption) (R.free_new (by assumption))).symm)
local macro_rules | `(tactic| walk_at "at") => `(tactic| first
  | assumption | exact L2.upd_same
  | (refine R.sb (H := ?H) (p := ?p) ?e ?n ?h; (case e => assumption); (case n => walk_at "ne"); (case h => walk_at "at"))
  | (refine R.sm (H := ?H) ?e ?h; (case e => assumption); (case h => walk_at "at"))
  | (refine Eq.trans (L2.upd_ne ?_) ?_ <;> first | walk_at "ne" | walk_at "at"))
local macro_rules | `(tactic| walk_at "sqt") => `(tactic| first | assumption | (refine L2.SqT.of ?_; walk_at "at"))
local macro_rules | `(tactic| walk_at "ty") => `(tactic| first | exact R.tyN | exact R.tyB | exact R.tyI | exact R.tyS | (refine R.tyT (xs := ?xs) ?h; case h => walk_at "at") | (refine R.tyL (xs := ?xs) ?h; case h => walk_at "at"))
local macro_rules | `(tactic| walk_at "kit") => `(tactic| first | exact R.kit_NoneType_tuple | exact R.kit_NoneType_list | exact R.kit_NoneType_bool | exact R.kit_NoneType_str | exact R.kit_NoneType_int | exact R.kit_bool_tuple | exact R.kit_bool_list | exact R.kit_bool_bool | exact R.kit_bool_str | exact R.kit_bool_int | exact R.kit_int_tuple | exact R.kit_int_list | exact R.kit_int_bool | exact R.kit_int_str | exact R.kit_int_int | exact R.kit_str_tuple | exact R.kit_str_list | exact R.kit_str_bool | exact R.kit_str_str | exact R.kit_str_int | exact R.kit_tuple_tuple | exact R.kit_tuple_list | exact R.kit_tuple_bool | exact R.kit_tuple_str | exact R.kit_tuple_int | exact R.kit_list_tuple | exact R.kit_list_list | exact R.kit_list_bool | exact R.kit_list_str | exact R.kit_list_int)
local macro_rules | `(tactic| walk_at "sz") => `(tactic| first | assumption | (refine Nat.le_trans ?_ (show 1000 ≤ PySem.sizeLine by decide); omega) | decide)
local macro_rules | `(tactic| walk_at "szl") => `(tactic| first | assumption | exact Nat.le_of_lt (L2.small1000 (by omega)) | decide | decide +kernel)
local macro_rules | `(tactic| walk_at "sys") => `(tactic| first | assumption | exact KN.SysAt.same (by assumption) (by assumption))
local macro_rules | `(tactic| walk_at "dk") => `(tactic| first | exact R.rowsS _ _ | exact R.rowsM _ _)
local macro_rules | `(tactic| walk_at "sqa") => `(tactic| first | assumption | exact R.SeqA.same (by assumption) (by assumption) | exact R.SeqA.new (by assumption) (by assumption) | (exact Or.inl (by walk_at "at")) | (exact Or.inr (by walk_at "at")))
local macro_rules | `(tactic| walk_at "ix") => `(tactic| first | rfl | (exact L2.atI_nat (by assumption)) | assumption)
local macro_rules | `(tactic| walk_at "cond") => `(tactic| first
  | exact Or.inl (by decide) | exact Or.inr (by decide) | exact Or.inl ⟨by omega, by omega⟩ | exact Or.inr ⟨by omega, by omega⟩
  | (constructor <;> omega) | (show _ ≠ _; omega) | decide | omega)
local macro_rules | `(tactic| walk_at "r1") => `(tactic| first
  | ((with_reducible refine R.var (v := ?v) ?h ?q); case h => rfl)
  | with_reducible apply R.cons
  | with_reducible apply R.c
  | with_reducible apply R.nil
  | with_reducible apply R.op
  | with_reducible apply R.gname
  | with_reducible apply R.seq
  | with_reducible apply R.call
  | with_reducible apply R.asg
  | with_reducible apply R.ex
  | with_reducible apply R.tst
  | with_reducible apply R.i0
  | with_reducible apply R.ifs
  | with_reducible apply R.ret
  | with_reducible apply R.retN
  | with_reducible apply R.drop
  | with_reducible apply R.next
  | with_reducible apply R.tb_
  | with_reducible apply R.eqI
  | with_reducible apply R.neI
  | ((with_reducible refine R.ic ?_ ?_); · walk_at "cond")
  | with_reducible apply R.u0
  | with_reducible apply R.un
  | ((with_reducible refine R.eq ?_ ?_); · rfl)
  | ((with_reducible refine R.ne ?_ ?_); · rfl)
  | with_reducible apply R.and_
  | with_reducible apply R.or_
  | with_reducible apply R.not_
  | with_reducible apply R.ife
  | with_reducible apply R.chain
  | with_reducible apply R.cb
  | with_reducible apply R.bm
  | with_reducible apply R.gsub
  | with_reducible apply R.gnil
  | with_reducible apply R.gcons
  | with_reducible apply R.yes
  | with_reducible apply R.int1
  | ((with_reducible refine R.lenL (xs := ?xs) ?h ?q); case h => walk_at "at")
  | ((with_reducible refine R.ixL (xs := ?xs) (v := ?v) ?h ?e ?q); (case h => walk_at "at"); (case e => walk_at "ix"))
  | ((with_reducible refine R.setL (xs := ?xs) (n := ?n) ?h ?e ?q); (case h => walk_at "at"); (case e => rfl))
  | ((with_reducible refine R.append (xs := ?xs) ?h ?e ?q); (case h => walk_at "at"); (case e => walk_at "cond"))
  | with_reducible apply R.is_
  | with_reducible apply R.isnot
  | with_reducible apply R.andV
  | with_reducible apply R.orV
  | with_reducible apply R.notV
  | ((with_reducible refine R.isi (s := ?s) (b := ?b) ?ty ?h ?q); (case ty => walk_at "ty"); (case h => walk_at "kit"))
  | ((with_reducible refine R.addS ?h ?q); (case h => walk_at "sz"))
  | with_reducible apply R.max2
  | with_reducible apply R.min2
  | ((with_reducible refine R.lenStr ?h ?q); (case h => walk_at "szl"))
  | ((with_reducible refine R.ixS (n := ?n) ?h ?e ?q); (case h => walk_at "szl"); (case e => walk_at "ix"))
  | ((with_reducible refine R.tyl (xs := ?xs) ?h ?q); (case h => walk_at "at"))
  | with_reducible apply R.itlist
  | with_reducible apply R.ittup
  | with_reducible apply R.m1
  | with_reducible apply R.m1s
  | with_reducible apply R.leS
  | with_reducible apply R.itstr
  | with_reducible apply R.itstrE
  | with_reducible apply R.lc
  | with_reducible apply R.lc2
  | with_reducible apply R.ckw
  | with_reducible apply R.par
  | with_reducible apply R.parE
  | with_reducible apply R.itrev
  | with_reducible apply R.dsetd
  | with_reducible apply R.dnotin_
  | with_reducible apply R.for_
  | ((with_reducible refine R.all_ (bs := ?bs) ?h ?q); (case h => walk_at "at"))
  | with_reducible apply R.rng1
  | ((with_reducible refine R.rngE ?h ?q); (case h => (constructor <;> omega)))
  | ((with_reducible refine R.lenT (xs := ?xs) ?h ?q); (case h => walk_at "sqt"))
  | ((with_reducible refine R.ixT (xs := ?xs) (v := ?v) ?h ?e ?q); (case h => walk_at "sqt"); (case e => walk_at "ix"))
  | ((refine R.itlE (xs := ?xs) ?h ?q); (case h => walk_at "at"))
  | ((refine R.ittE (xs := ?xs) ?h ?q); (case h => walk_at "at"))
  | ((refine R.gseq (xs := ?xs) ?h ?e ?q); (case h => walk_at "sqa"); (case e => rfl))
  | ((refine R.ixA (xs := ?xs) (v := ?v) ?h ?e ?q); (case h => walk_at "sqa"); (case e => walk_at "ix"))
  | ((refine R.lenA (xs := ?xs) ?h ?q); (case h => walk_at "sqa"))
  | ((with_reducible refine R.gtup (xs := ?xs) ?h ?e ?q); (case h => walk_at "sqt"); (case e => rfl))
  | with_reducible apply R.din_
  | with_reducible apply R.dput_
  | with_reducible apply R.dget2_
  | ((with_reducible refine R.aug_ (x := ?x) ?h ?q); case h => rfl)
  | with_reducible apply R.ipI_
  | with_reducible apply R.rng2
  | ((with_reducible refine R.rngE2 ?h ?q); (case h => (refine ⟨?_, ?_, ?_, ?_⟩ <;> omega)))
  | with_reducible apply R.brk
  | with_reducible apply R.intB
  | with_reducible apply R.meth_
  | ((refine KN.methS (rs := ?rs) (ms := ?ms) ?h (fun _ _ _ _ => rfl) ?q); case h => walk_at "sys")
  | with_reducible apply R.sl_
  | with_reducible apply R.np_
  | with_reducible apply R.pt_
  | with_reducible apply R.ptE
  | with_reducible apply R.dget_
  | with_reducible apply R.revL_
  | ((refine R.dgetS (kvs := ?kvs) (v := ?v) ?h ?e ?q); (case h => walk_at "at"); (case e => walk_at "dk"))
  | with_reducible apply R.sfld
  | with_reducible apply R.fld_
  | with_reducible apply R.dc
  | with_reducible apply R.dget1_
  | with_reducible apply R.itseq
  | with_reducible apply R.itenum
  | with_reducible apply R.itT
  | with_reducible apply R.itF
  | with_reducible apply R.itNT
  | with_reducible apply R.itNF
  | (with_reducible apply R.tup)
  | (with_reducible apply R.lst))
local macro_rules | `(tactic| walk_at "rd") => `(tactic| (repeat (first | walk_at "r1" | (dsimp only [Int.reduceToNat, List.set_cons_succ, List.set_cons_zero, List.length_cons, List.length_nil, List.nil_append, List.cons_append, List.append_nil]))))
local macro_rules | `(tactic| walk_at "go") => `(tactic| (rw [R.start_eq]; dsimp only [R.startE, List.map_nil]; walk_at "rd"))
local macro_rules | `(tactic| walk_at "r1") => `(tactic| first | with_reducible apply R.callN | with_reducible apply R.tr_ | with_reducible apply R.rng3 | with_reducible apply R.bits | with_reducible apply R.dnewT)
-- RTX
namespace KN
open PySem L2 SX R
open C8 (Cal Def cal0 pe_c pe_gc fnScope fnBody pss_cut Met met0 pe_mt pe_mt0)
section
variable {P : Program} {w : World} {K : PySem.W.Frag} {mg : Str → Option Value} {base : Heap}
theorem pg_never {X : Cx} {e : Expr} : PG X e (fun _ _ _ _ => False) := ⟨fun _ _ _ _ _ _ _ _ _ h => h.elim⟩
abbrev sPsgI : Stmt := inClass (top 25) 0
theorem scPsgI : FnScope ["self", "first", "second"] ["self", "first", "second"] (defScope sPsgI) := ⟨rfl, rfl, rfl, by decide +kernel, rfl, by decide +kernel, by decide +kernel⟩
abbrev sPsgC : Stmt := inClass (top 25) 1
theorem scPsgC : FnScope ["self", "found", "row", "x", "other", "m"] ["self"] (fnScope sPsgC) := ⟨rfl, rfl, rfl, by decide +kernel, rfl, by decide +kernel, by decide +kernel⟩
abbrev sConfs : Stmt := top 26
theorem scConfs : FnScope ["first", "second"] ["first", "second"] (fnScope sConfs) := ⟨rfl, rfl, rfl, by decide +kernel, rfl, by decide +kernel, by decide +kernel⟩
abbrev sFconf : Stmt := top 27
theorem scFconf : FnScope ["first", "second", "found"] ["first", "second"] (fnScope sFconf) := ⟨rfl, rfl, rfl, by decide +kernel, rfl, by decide +kernel, by decide +kernel⟩
abbrev sFfr : Stmt := top 29
theorem scFfr : FnScope ["first", "second", "forward", "found", "backward", "in_second", "in_first"] ["first", "second"] (fnScope sFfr) := ⟨rfl, rfl, rfl, by decide +kernel, rfl, by decide +kernel, by decide +kernel⟩
abbrev sCcnt : Stmt := top 30
theorem scCcnt : FnScope ["first", "second"] ["first", "second"] (fnScope sCcnt) := ⟨rfl, rfl, rfl, by decide +kernel, rfl, by decide +kernel, by decide +kernel⟩
structure PsgK (K : PySem.W.Frag) (C : Addr) : Prop where
  cl : Cls K C
  nF : NoAttr K C "_first"
  nS : NoAttr K C "_second"
/-- two systems that define a word differently: the making ends with the error of the first such word -/
def spPsgI (CP S CE : Addr) : Sp := fun vs H _ E => ∃ (H0 : Hp) (a dx x y : Addr) (rs rs' : List SR) (ms ms' : List MR) (z : Str), vs = [.ref a, .ref x, .ref y] ∧ H0 a = none ∧ H a = some (.ins CP dx []) ∧ Same H0 H ∧ SysAt S H0 x rs ms ∧ SysAt S H0 y rs' ms' ∧ GoodSys rs ms ∧ GoodSys rs' ms' ∧
  oddF rs ms rs' ms' = some z ∧ ∀ d H', Same H0 H' → H' d = some (.xd [("word", .str z)]) → E (.ref CE) (some d) H'
def spRefu (S CE : Addr) : Sp := fun vs H _ E => ∃ (x y : Addr) (rs rs' : List SR) (ms ms' : List MR) (z : Str), vs = [.ref x, .ref y] ∧ SysAt S H x rs ms ∧ SysAt S H y rs' ms' ∧ GoodSys rs ms ∧ GoodSys rs' ms' ∧
  oddF rs ms rs' ms' = some z ∧ ∀ d H', Same H H' → H' d = some (.xd [("word", .str z)]) → E (.ref CE) (some d) H'
theorem ok_psgI {CP S CE : Addr} (T : PsgK K CP) (c_common_system : CalX P w K mg base 3 "common_system" (spCsys S CE)) {f : Addr} {fd : FuncData} (F : Fun K "__init__" "Passage.__init__" sPsgI f fd) : FnOk P w K mg base (L2.CX P w) 4 f fd ["self", "first", "second"] (spPsgI CP S CE) := by
  refine F.okX scPsgI (fun vs H Q E h => ?_) (fun cdv A outer s H vs Q E hr h => ?_)
  · obtain ⟨H0, a, dx, x, y, rs, rs', ms, ms', z, rfl, _⟩ := h
    rfl
  · obtain ⟨H0, a, dx, x, y, rs, rs', ms, ms', z, rfl, h0, ha, s0, hX, hY, hg, hg', ho, k⟩ := h
    refine ⟨_, pss_cons (kFldS K (ps_fld (pv 0) (pv 1) rfl))
      (pss_cons (kFldS K (ps_fld (pv 0) (pv 2) rfl))
      (pss_cons (ps_asg (pe_cx c_common_system hr (by omega) (takes_of rfl rfl rfl rfl) (by rfl) (pa_cons (pv 1) (pa_cons (pv 2) pa_nil))) KN.pg_never)
      (pss_one (ps_never)))), ?_⟩
    walk_at "go"
    refine R.sfldE ha T.cl T.nF (by decide) ?_
    dsimp only [putF]
    have s1 : Same H0 (upd H a (.ins CP dx [("_first", .ref x)])) := same_put s0 h0
    have h1 : upd H a (.ins CP dx [("_first", .ref x)]) a = some (.ins CP dx [("_first", .ref x)]) := upd_same
    generalize upd H a (.ins CP dx [("_first", .ref x)]) = H1 at s1 h1
    walk_at "rd"
    refine R.sfldE h1 T.cl T.nS (by show 1 < 1000; decide) ?_
    have s2 : Same H0 (upd H1 a (.ins CP dx (putF "_second" (.ref y) [("_first", .ref x)]))) := same_put s1 h0
    generalize upd H1 a (.ins CP dx (putF "_second" (.ref y) [("_first", .ref x)])) = H2 at s2
    walk_at "rd"
    exact ⟨x, y, rs, rs', ms, ms', rfl, hX.same s2, hY.same s2, hg, hg', .inr ⟨z, ho, fun d H' s3 e => k d H' (s2.trans s3) e⟩⟩
def spNone : Sp := fun _ _ _ _ => False
theorem m_none {CP : Addr} (T : PsgK K CP) {f : Addr} {fd : FuncData} (me : Meth K CP "conflicts" f) (F : C8.Fun K "conflicts" "Passage.conflicts" sPsgC f fd) (b : Binds K fd ["self"] []) : Met P w K mg base 1 CP "conflicts" spNone [] :=
  met0 T.cl me F b scPsgC (fun _ _ _ _ h => h.elim) (fun _ _ _ _ _ _ _ _ _ h => h.elim)
section
variable (Z : Zs mg) {CP S CE fP : Addr} {fdP : FuncData} (gP : mg "Passage" = some (.ref CP)) (MP : Mk K CP fP) (GP : FnOk P w K mg base (L2.CX P w) 4 fP fdP ["self", "first", "second"] (spPsgI CP S CE)) (bP : Binds K fdP ["self", "first", "second"] [])
theorem psg_in {S CP CE x y : Addr} {rs rs' : List SR} {ms ms' : List MR} {z : Str} {H : Hp} {E : XK} (hX : SysAt S H x rs ms) (hY : SysAt S H y rs' ms') (hg : GoodSys rs ms) (hg' : GoodSys rs' ms') (ho : oddF rs ms rs' ms' = some z)
    (k : ∀ d H', Same H H' → H' d = some (.xd [("word", .str z)]) → E (.ref CE) (some d) H') : ∀ (a dx : Addr), H a = none → H dx = none → dx ≠ a → ∀ Q : VK, spPsgI CP S CE (.ref a :: ([.ref x, .ref y] ++ [])) (upd (upd H dx (.own a)) a (.ins CP dx [])) Q E :=
  fun a dx ha hdx nd Q => ⟨H, a, dx, x, y, rs, rs', ms, ms', z, rfl, ha, upd_same, same_put (same_new (Same.refl _) hdx) ha, hX, hY, hg, hg', ho, k⟩
include Z gP MP GP bP
theorem c_confs (m_conflicts : Met P w K mg base 1 CP "conflicts" spNone []) {f : Addr} {fd : FuncData} (F : Def K mg "conflicts" sConfs f fd) (b : Binds K fd ["first", "second"] []) : CalX P w K mg base 6 "conflicts" (spRefu S CE) := by
  refine calX0 F b scConfs (fun vs H Q E h => ?_) (fun cdv A outer s H vs Q E hr h => ?_)
  · obtain ⟨x, y, rs, rs', ms, ms', z, rfl, _⟩ := h
    rfl
  · obtain ⟨x, y, rs, rs', ms, ms', z, rfl, hX, hY, hg, hg', ho, k⟩ := h
    refine ⟨_, pss_one (ps_ret (pe_callTy (kTuple K) (by rfl) Z.tuple (by decide +kernel) (pa_cons (pe_mt0 m_conflicts hr (by omega) (pe_make MP GP (hr.mono (by omega)) rfl gP bP .nil (passes_call (takes_of rfl rfl rfl rfl) fun _ _ _ _ h => h) (pa_cons (pv 0) (pa_cons (pv 1) pa_nil)))) pa_nil))), ?_⟩
    walk_at "go"
    unfold tMake
    walk_at "rd"
    exact fun a dx ha hdx nd => psg_in hX hY hg hg' ho k a dx ha hdx nd _
theorem c_fconf (m_conflicts : Met P w K mg base 1 CP "conflicts" spNone []) {f : Addr} {fd : FuncData} (F : Def K mg "first_conflict" sFconf f fd) (b : Binds K fd ["first", "second"] []) : CalX P w K mg base 6 "first_conflict" (spRefu S CE) := by
  refine calX0 F b scFconf (fun vs H Q E h => ?_) (fun cdv A outer s H vs Q E hr h => ?_)
  · obtain ⟨x, y, rs, rs', ms, ms', z, rfl, _⟩ := h
    rfl
  · obtain ⟨x, y, rs, rs', ms, ms', z, rfl, hX, hY, hg, hg', ho, k⟩ := h
    refine ⟨_, pss_cons (ps_set (i := 2) scFconf.nd rfl (Or.inl rfl) (pe_mt0 m_conflicts hr (by omega) (pe_make MP GP (hr.mono (by omega)) rfl gP bP .nil (passes_call (takes_of rfl rfl rfl rfl) fun _ _ _ _ h => h) (pa_cons (pv 0) (pa_cons (pv 1) pa_nil)))))
      (pss_one (ps_never)), ?_⟩
    walk_at "go"
    unfold tMake
    walk_at "rd"
    exact fun a dx ha hdx nd => psg_in hX hY hg hg' ho k a dx ha hdx nd _
theorem c_ffr {f : Addr} {fd : FuncData} (F : Def K mg "false_friend" sFfr f fd) (b : Binds K fd ["first", "second"] []) : CalX P w K mg base 6 "false_friend" (spRefu S CE) := by
  refine calX0 F b scFfr (fun vs H Q E h => ?_) (fun cdv A outer s H vs Q E hr h => ?_)
  · obtain ⟨x, y, rs, rs', ms, ms', z, rfl, _⟩ := h
    rfl
  · obtain ⟨x, y, rs, rs', ms, ms', z, rfl, hX, hY, hg, hg', ho, k⟩ := h
    refine ⟨_, pss_cons (ps_set (i := 2) scFfr.nd rfl (Or.inl rfl) (pe_make MP GP (hr.mono (by omega)) rfl gP bP .nil (passes_call (takes_of rfl rfl rfl rfl) fun _ _ _ _ h => h) (pa_cons (pv 0) (pa_cons (pv 1) pa_nil))))
      (pss_cons (ps_never)
      (pss_cons (ps_never)
      (pss_cons (ps_never)
      (pss_cons (ps_never)
      (pss_cons (ps_never)
      (pss_one (ps_never))))))), ?_⟩
    walk_at "go"
    unfold tMake
    walk_at "rd"
    exact fun a dx ha hdx nd => psg_in hX hY hg hg' ho k a dx ha hdx nd _
theorem c_ccnt (m_conflicts : Met P w K mg base 1 CP "conflicts" spNone []) {f : Addr} {fd : FuncData} (F : Def K mg "conflict_counts" sCcnt f fd) (b : Binds K fd ["first", "second"] []) : CalX P w K mg base 6 "conflict_counts" (spRefu S CE) := by
  refine calX0 F b scCcnt (fun vs H Q E h => ?_) (fun cdv A outer s H vs Q E hr h => ?_)
  · obtain ⟨x, y, rs, rs', ms, ms', z, rfl, _⟩ := h
    rfl
  · obtain ⟨x, y, rs, rs', ms, ms', z, rfl, hX, hY, hg, hg', ho, k⟩ := h
    refine ⟨_, pss_one (ps_ret (pe_tup (pa_cons (pe_callB (kLen K) (by rfl) Z.len PySem.boot_len (pa_cons (pe_mt0 m_conflicts hr (by omega) (pe_make MP GP (hr.mono (by omega)) rfl gP bP .nil (passes_call (takes_of rfl rfl rfl rfl) fun _ _ _ _ h => h) (pa_cons (pv 0) (pa_cons (pv 1) pa_nil)))) pa_nil)) (pa_cons (pe_callB (kLen K) (by rfl) Z.len PySem.boot_len (pa_cons (pe_mt0 m_conflicts hr (by omega) (pe_make MP GP (hr.mono (by omega)) rfl gP bP .nil (passes_call (takes_of rfl rfl rfl rfl) fun _ _ _ _ h => h) (pa_cons (pv 1) (pa_cons (pv 0) pa_nil)))) pa_nil)) pa_nil)))), ?_⟩
    walk_at "go"
    unfold tMake
    walk_at "rd"
    exact fun a dx ha hdx nd => psg_in hX hY hg hg' ho k a dx ha hdx nd _
end
end
end KN
end
section
set_option Elab.async false
set_option linter.all false
set_option maxRecDepth 100000
set_option maxHeartbeats 4000000
set_option pp.maxSteps 1500
set_option pp.deepTerms false
local macro_rules | `(tactic| walk_at "ne") => `(tactic| first
  | assumption | (apply Ne.symm; assumption)
  | exact R.ne_new (by assumption) | exact (R.ne_new (by assumption)).symm
  | exact L2.ne_of_none (by assumption) (by assumption) | exact (L2.ne_of_none (by assumption) (by assumption)).symm
  | exact L2.ne_of_none (by assumption) (R.free_new (by assumption)) | exact (L2.ne_of_none (by assumption) (R.free_new (by assumption))).symm)
local macro_rules | `(tactic| walk_at "at") => `(tactic| first
  | assumption | exact L2.upd_same
  | (refine R.sb (H := ?H) (p := ?p) ?e ?n ?h; (case e => assumption); (case n => walk_at "ne"); (case h => walk_at "at"))
  | (refine R.sm (H := ?H) ?e ?h; (case e => assumption); (case h => walk_at "at"))
  | (refine Eq.trans (L2.upd_ne ?_) ?_ <;> first | walk_at "ne" | walk_at "at"))
local macro_rules | `(tactic| walk_at "sqt") => `(tactic| first | assumption | (refine L2.SqT.of ?_; walk_at "at"))
local macro_rules | `(tactic| walk_at "ty") => `(tactic| first | exact R.tyN | exact R.tyB | exact R.tyI | exact R.tyS | (refine R.tyT (xs := ?xs) ?h; case h => walk_at "at") | (refine R.tyL (xs := ?xs) ?h; case h => walk_at "at"))
local macro_rules | `(tactic| walk_at "kit") => `(tactic| first | exact R.kit_NoneType_tuple | exact R.kit_NoneType_list | exact R.kit_NoneType_bool | exact R.kit_NoneType_str | exact R.kit_NoneType_int | exact R.kit_bool_tuple | exact R.kit_bool_list | exact R.kit_bool_bool | exact R.kit_bool_str | exact R.kit_bool_int | exact R.kit_int_tuple | exact R.kit_int_list | exact R.kit_int_bool | exact R.kit_int_str | exact R.kit_int_int | exact R.kit_str_tuple | exact R.kit_str_list | exact R.kit_str_bool | exact R.kit_str_str | exact R.kit_str_int | exact R.kit_tuple_tuple | exact R.kit_tuple_list | exact R.kit_tuple_bool | exact R.kit_tuple_str | exact R.kit_tuple_int | exact R.kit_list_tuple | exact R.kit_list_list | exact R.kit_list_bool | exact R.kit_list_str | exact R.kit_list_int)
local macro_rules | `(tactic| walk_at "sz") => `(tactic| first | assumption | (refine Nat.le_trans ?_ (show 1000 ≤ PySem.sizeLine by decide); omega) | decide)
local macro_rules | `(tactic| walk_at "szl") => `(tactic| first | assumption | exact Nat.le_of_lt (L2.small1000 (by omega)) | decide | decide +kernel)
local macro_rules | `(tactic| walk_at "sys") => `(tactic| first | assumption | exact KN.SysAt.same (by assumption) (by assumption))
local macro_rules | `(tactic| walk_at "dk") => `(tactic| first | exact R.rowsS _ _ | exact R.rowsM _ _)
local macro_rules | `(tactic| walk_at "sqa") => `(tactic| first | assumption | exact R.SeqA.same (by assumption) (by assumption) | exact R.SeqA.new (by assumption) (by assumption) | (exact Or.inl (by walk_at "at")) | (exact Or.inr (by walk_at "at")))
local macro_rules | `(tactic| walk_at "ix") => `(tactic| first | rfl | (exact L2.atI_nat (by assumption)) | assumption)
local macro_rules | `(tactic| walk_at "cond") => `(tactic| first
  | exact Or.inl (by decide) | exact Or.inr (by decide) | exact Or.inl ⟨by omega, by omega⟩ | exact Or.inr ⟨by omega, by omega⟩
  | (constructor <;> omega) | (show _ ≠ _; omega) | decide | omega)
local macro_rules | `(tactic| walk_at "r1") => `(tactic| first
  | ((with_reducible refine R.var (v := ?v) ?h ?q); case h => rfl)
  | with_reducible apply R.cons
  | with_reducible apply R.c
  | with_reducible apply R.nil
  | with_reducible apply R.op
  | with_reducible apply R.gname
  | with_reducible apply R.seq
  | with_reducible apply R.call
  | with_reducible apply R.asg
  | with_reducible apply R.ex
  | with_reducible apply R.tst
  | with_reducible apply R.i0
  | with_reducible apply R.ifs
  | with_reducible apply R.ret
  | with_reducible apply R.retN
  | with_reducible apply R.drop
  | with_reducible apply R.next
  | with_reducible apply R.tb_
  | with_reducible apply R.eqI
  | with_reducible apply R.neI
  | ((with_reducible refine R.ic ?_ ?_); · walk_at "cond")
  | with_reducible apply R.u0
  | with_reducible apply R.un
  | ((with_reducible refine R.eq ?_ ?_); · rfl)
  | ((with_reducible refine R.ne ?_ ?_); · rfl)
  | with_reducible apply R.and_
  | with_reducible apply R.or_
  | with_reducible apply R.not_
  | with_reducible apply R.ife
  | with_reducible apply R.chain
  | with_reducible apply R.cb
  | with_reducible apply R.bm
  | with_reducible apply R.gsub
  | with_reducible apply R.gnil
  | with_reducible apply R.gcons
  | with_reducible apply R.yes
  | with_reducible apply R.int1
  | ((with_reducible refine R.lenL (xs := ?xs) ?h ?q); case h => walk_at "at")
  | ((with_reducible refine R.ixL (xs := ?xs) (v := ?v) ?h ?e ?q); (case h => walk_at "at"); (case e => walk_at "ix"))
  | ((with_reducible refine R.setL (xs := ?xs) (n := ?n) ?h ?e ?q); (case h => walk_at "at"); (case e => rfl))
  | ((with_reducible refine R.append (xs := ?xs) ?h ?e ?q); (case h => walk_at "at"); (case e => walk_at "cond"))
  | with_reducible apply R.is_
  | with_reducible apply R.isnot
  | with_reducible apply R.andV
  | with_reducible apply R.orV
  | with_reducible apply R.notV
  | ((with_reducible refine R.isi (s := ?s) (b := ?b) ?ty ?h ?q); (case ty => walk_at "ty"); (case h => walk_at "kit"))
  | ((with_reducible refine R.addS ?h ?q); (case h => walk_at "sz"))
  | with_reducible apply R.max2
  | with_reducible apply R.min2
  | ((with_reducible refine R.lenStr ?h ?q); (case h => walk_at "szl"))
  | ((with_reducible refine R.ixS (n := ?n) ?h ?e ?q); (case h => walk_at "szl"); (case e => walk_at "ix"))
  | ((with_reducible refine R.tyl (xs := ?xs) ?h ?q); (case h => walk_at "at"))
  | with_reducible apply R.itlist
  | with_reducible apply R.ittup
  | with_reducible apply R.m1
  | with_reducible apply R.m1s
  | with_reducible apply R.leS
  | with_reducible apply R.itstr
  | with_reducible apply R.itstrE
  | with_reducible apply R.lc
  | with_reducible apply R.lc2
  | with_reducible apply R.ckw
  | with_reducible apply R.par
  | with_reducible apply R.parE
  | with_reducible apply R.itrev
  | with_reducible apply R.dsetd
  | with_reducible apply R.dnotin_
  | with_reducible apply R.for_
  | ((with_reducible refine R.all_ (bs := ?bs) ?h ?q); (case h => walk_at "at"))
  | with_reducible apply R.rng1
  | ((with_reducible refine R.rngE ?h ?q); (case h => (constructor <;> omega)))
  | ((with_reducible refine R.lenT (xs := ?xs) ?h ?q); (case h => walk_at "sqt"))
  | ((with_reducible refine R.ixT (xs := ?xs) (v := ?v) ?h ?e ?q); (case h => walk_at "sqt"); (case e => walk_at "ix"))
  | ((refine R.itlE (xs := ?xs) ?h ?q); (case h => walk_at "at"))
  | ((refine R.ittE (xs := ?xs) ?h ?q); (case h => walk_at "at"))
  | ((refine R.gseq (xs := ?xs) ?h ?e ?q); (case h => walk_at "sqa"); (case e => rfl))
  | ((refine R.ixA (xs := ?xs) (v := ?v) ?h ?e ?q); (case h => walk_at "sqa"); (case e => walk_at "ix"))
  | ((refine R.lenA (xs := ?xs) ?h ?q); (case h => walk_at "sqa"))
  | ((with_reducible refine R.gtup (xs := ?xs) ?h ?e ?q); (case h => walk_at "sqt"); (case e => rfl))
  | with_reducible apply R.din_
  | with_reducible apply R.dput_
  | with_reducible apply R.dget2_
  | ((with_reducible refine R.aug_ (x := ?x) ?h ?q); case h => rfl)
  | with_reducible apply R.ipI_
  | with_reducible apply R.rng2
  | ((with_reducible refine R.rngE2 ?h ?q); (case h => (refine ⟨?_, ?_, ?_, ?_⟩ <;> omega)))
  | with_reducible apply R.brk
  | with_reducible apply R.intB
  | with_reducible apply R.meth_
  | ((refine KN.methS (rs := ?rs) (ms := ?ms) ?h (fun _ _ _ _ => rfl) ?q); case h => walk_at "sys")
  | with_reducible apply R.sl_
  | with_reducible apply R.np_
  | with_reducible apply R.pt_
  | with_reducible apply R.ptE
  | with_reducible apply R.dget_
  | with_reducible apply R.revL_
  | ((refine R.dgetS (kvs := ?kvs) (v := ?v) ?h ?e ?q); (case h => walk_at "at"); (case e => walk_at "dk"))
  | with_reducible apply R.sfld
  | with_reducible apply R.fld_
  | with_reducible apply R.dc
  | with_reducible apply R.dget1_
  | with_reducible apply R.itseq
  | with_reducible apply R.itenum
  | with_reducible apply R.itT
  | with_reducible apply R.itF
  | with_reducible apply R.itNT
  | with_reducible apply R.itNF
  | (with_reducible apply R.tup)
  | (with_reducible apply R.lst))
local macro_rules | `(tactic| walk_at "rd") => `(tactic| (repeat (first | walk_at "r1" | (dsimp only [Int.reduceToNat, List.set_cons_succ, List.set_cons_zero, List.length_cons, List.length_nil, List.nil_append, List.cons_append, List.append_nil]))))
local macro_rules | `(tactic| walk_at "go") => `(tactic| (rw [R.start_eq]; dsimp only [R.startE, List.map_nil]; walk_at "rd"))
local macro_rules | `(tactic| walk_at "r1") => `(tactic| first | with_reducible apply R.callN | with_reducible apply R.tr_ | with_reducible apply R.rng3 | with_reducible apply R.bits | with_reducible apply R.dnewT)
-- RTX
namespace KN
open PySem L2 SX R
open C8 (Cal Def cal0 pe_c pe_gc fnScope fnBody pss_cut Met pe_mt pe_mt0)
section
variable {P : Program} {w : World} {K : PySem.W.Frag} {mg : Str → Option Value} {base : Heap}
abbrev sLcom : Stmt := top 47
theorem scLcom : FnScope ["first", "second", "known", "row", "rows", "word", "value", "most", "is_unsaid", "last", "other", "counts", "least", "words", "count"] ["first", "second"] (fnScope sLcom) := ⟨rfl, rfl, rfl, by decide +kernel, rfl, by decide +kernel, by decide +kernel⟩
/-- the multipliers by their words -/
def MulAt (H : Hp) (d : Addr) (F : Str → Option MR) (N : Nat) : Prop := ∃ kvs : List (Key × V), H d = some (.dK kvs) ∧ kvs.length ≤ N ∧ ∀ z, match F z with
  | none => valV kvs (Sum.inr z : Key) = none
  | some m => ∃ t, valV kvs (Sum.inr z : Key) = some (.ref t) ∧ H t = some (.tup (mrV m))
theorem MulAt.keep {H H' : Hp} {d : Addr} {F : Str → Option MR} {N : Nat} (h : MulAt H d F N) (k : TupKeep H H') (hd : ∀ kvs, H d = some (.dK kvs) → H' d = some (.dK kvs)) : MulAt H' d F N := by
  obtain ⟨kvs, h1, h2, h3⟩ := h
  refine ⟨kvs, hd _ h1, h2, fun z => ?_⟩
  have := h3 z
  cases e : F z with
  | none => rw [e] at this; exact this
  | some m => rw [e] at this; obtain ⟨t, a, b⟩ := this; exact ⟨t, a, k _ _ b⟩
theorem MulAt.same {H H' : Hp} {d : Addr} {F : Str → Option MR} {N : Nat} (h : MulAt H d F N) (s : Same H H') : MulAt H' d F N := h.keep (fun a x q => s _ _ q) fun _ q => s _ _ q
theorem MulAt.put {H : Hp} {d t : Addr} {F : Str → Option MR} {z : Str} {m : MR} {N : Nat} (h : MulAt H d F N) (ht : H t = some (.tup (mrV m))) : ∃ kvs, H d = some (.dK kvs) ∧ kvs.length ≤ N ∧ MulAt (upd H d (.dK (putK kvs (Sum.inr z : Key) (.ref t)))) d (fun y => if z = y then some m else F y) (N + 1) := by
  obtain ⟨kvs, h1, h2, h3⟩ := h
  refine ⟨kvs, h1, h2, _, upd_same, ?_, fun y => ?_⟩
  · have := DSub.putK_len kvs (Sum.inr z : Key) (V.ref t)
    omega
  · have nb : ∀ (b : Addr) (q : List V), H b = some (.tup q) → upd H d (.dK (putK kvs (Sum.inr z : Key) (.ref t))) b = some (.tup q) := fun b q e => by rw [upd_ne (ne_of e h1 (by intro z; cases z))]; exact e
    dsimp only
    by_cases e : z = y
    · subst e
      rw [if_pos rfl]
      exact ⟨t, by rw [valV_put, if_pos rfl], nb _ _ ht⟩
    · rw [if_neg e]
      have := h3 y
      cases q : F y with
      | none =>
        rw [q] at this
        show valV _ _ = none
        rw [valV_put, if_neg (fun z => e (Sum.inr.inj z).symm)]
        exact this
      | some k' =>
        rw [q] at this
        obtain ⟨b, b1, b2⟩ := this
        exact ⟨b, by rw [valV_put, if_neg (fun z => e (Sum.inr.inj z).symm)]; exact b1, nb _ _ b2⟩
theorem mvL_snoc {ms : List MR} {i : Nat} (hi : i < ms.length) (nd : (ms.map (·.w)).Nodup) : (fun y => if ms[i].w = y then some ms[i] else mvL (ms.take i) y) = mvL (ms.take (i + 1)) := by
  funext y
  have hri : ms[i]? = some ms[i] := List.getElem?_eq_getElem hi
  have et : ms.take (i + 1) = ms.take i ++ [ms[i]] := by rw [List.take_add_one, hri]; rfl
  have nin := nd_take nd (i := i) (z := ms[i].w) (by rw [List.getElem?_map, hri]; rfl)
  rw [et]
  have e1 : mvL (ms.take i ++ [ms[i]]) y = (mvL (ms.take i) y).or (if ms[i].w = y then some ms[i] else none) := by
    unfold mvL
    rw [find_snoc]
    by_cases h : ms[i].w = y
    · rw [if_pos (decide_eq_true h), if_pos h]
    · rw [if_neg (fun z => h (of_decide_eq_true z)), if_neg h]
  rw [e1]
  by_cases h : ms[i].w = y
  · rw [if_pos h, if_pos h, mvL_none.mpr (fun q hq e => nin (by rw [← List.map_take]; exact List.mem_map.mpr ⟨q, hq, e.trans h.symm⟩))]
    rfl
  · rw [if_neg h, if_neg h, Option.or_none]
theorem svL_some {rs : List SR} {z : Str} : (svL rs z).isSome = decide (z ∈ rs.map (·.w)) := by
  by_cases h : z ∈ rs.map (·.w)
  · rw [decide_eq_true h]
    cases e : svL rs z with
    | some v => rfl
    | none =>
      obtain ⟨r, h1, h2⟩ := List.mem_map.mp h
      exact absurd h2 (svL_none.mp e r h1)
  · rw [decide_eq_false h, svL_none.mpr (fun r hr e => h (List.mem_map.mpr ⟨r, hr, e⟩))]
    rfl
theorem lesser_cs (a b : Option Int) : ([a, b].filterMap id = [] → lesserC a b = none) ∧ ∀ m, m ∈ [a, b].filterMap id → (∀ y, y ∈ [a, b].filterMap id → m ≤ y) → lesserC a b = some m := by
  cases a with
  | none =>
    cases b with
    | none => exact ⟨fun _ => rfl, fun m h => nomatch h⟩
    | some b =>
      refine ⟨fun h => (List.cons_ne_nil b [] h).elim, fun m (h : m ∈ [b]) _ => ?_⟩
      rw [List.mem_singleton.mp h]
      rfl
  | some a =>
    cases b with
    | none =>
      refine ⟨fun h => (List.cons_ne_nil a [] h).elim, fun m (h : m ∈ [a]) _ => ?_⟩
      rw [List.mem_singleton.mp h]
      rfl
    | some b =>
      refine ⟨fun h => (List.cons_ne_nil a [b] h).elim, fun m (h : m ∈ [a, b]) hl => ?_⟩
      have l1 := hl a (List.mem_cons_self ..)
      have l2 := hl b (List.mem_cons_of_mem _ (List.mem_cons_self ..))
      show some (if b < a then b else a) = some m
      congr 1
      rcases List.mem_cons.mp h with h | h
      · rw [if_neg (by omega)]; exact h.symm
      · have := List.mem_singleton.mp h
        by_cases z : b < a
        · rw [if_pos z]; exact this.symm
        · rw [if_neg z]; omega
def spLcom : Sp := fun vs H Q _ => ∃ (r r' : Addr) (rs rs' : List SR) (ms ms' : List MR), vs = [.ref r, .ref r'] ∧ RowsAt H r rs ms ∧ RowsAt H r' rs' ms' ∧ GoodSys rs ms ∧ GoodSys rs' ms' ∧
  ∀ H' t s m xs ys, Same H H' → H' t = some (.dK (rowsKs s m)) → H' s = some (.lst xs) → TupsAt H' xs ((comS rs rs').map srV) → H' m = some (.lst ys) → TupsAt H' ys ((comL ms ms').map cmV) → Q (.ref t) H'
theorem c_lcom (Z : Zs mg) {f : Addr} {fd : FuncData} (F : Def K mg "_law_common" sLcom f fd) (b : Binds K fd ["first", "second"] []) : Cal P w K mg base 2 "_law_common" spLcom [] := by
  refine cal0 F b .nil scLcom (fun vs H Q E h => ?_) (fun cdv A outer s H vs Q E hr h => ?_)
  · obtain ⟨r, r', rs, rs', ms, ms', rfl, _⟩ := h
    rfl
  · obtain ⟨r, r', rs, rs', ms, ms', rfl, hR, hR', hg, hg', k⟩ := h
    refine ⟨_, pss_cons (ps_set (i := 2) scLcom.nd rfl (Or.inl rfl) pe_dnewK)
      (pss_cons (ps_for PassesOwn.never rfl (kiL K (pe_dget (hu_of hr) (pv 1) pe_str (fun _ _ => rfl))) (pg_name (i := 3) scLcom.nd rfl (Or.inl rfl))
        (pss_one (ps_dput (hu_of hr) (pv 2) (pe_ix (kIxT K) (pv 3) pe_int (fun _ _ => rfl)) (pv 3) rfl)))
      (pss_cons (ps_set (i := 4) scLcom.nd rfl (Or.inl rfl) (pe_lst pa_nil))
      (pss_cons (ps_for PassesOwn.never rfl (kiL K (pe_dget (hu_of hr) (pv 0) pe_str (fun _ _ => rfl))) (kgTup K (n := 5) rfl (pgs_cons (pg_name (i := 5) scLcom.nd rfl (Or.inl rfl)) (pgs_cons (pg_name (i := 6) scLcom.nd rfl (Or.inl rfl)) (pgs_cons (pg_name (i := 7) scLcom.nd rfl (Or.inl rfl)) (pgs_cons (pg_name (i := 8) scLcom.nd rfl (Or.inl rfl)) (pgs_cons (pg_name (i := 9) scLcom.nd rfl (Or.inl rfl)) pgs_nil))))))
        (pss_one (ps_if (pt_cmp (pc_din (hu_of hr) (pv 5) (pv 2)))
        (pss_cons (ps_set (i := 10) scLcom.nd rfl (Or.inl rfl) (pe_dget (hu_of hr) (pv 2) (pv 5) (fun _ _ => rfl)))
      (pss_cons (ps_setLc (i := 11) (own := [("count", 14)]) (g := gName 14) rfl scLcom.nd rfl rfl (sw_true rfl rfl rfl (by decide +kernel)) (kiT K (pe_tup (pa_cons (pv 7) (pa_cons (pe_ix (kIxT K) (pv 10) pe_int (fun _ _ => rfl)) pa_nil)))) (blkOk_by (own := [("count", 14)]) (N := ["first", "second", "known", "row", "rows", "word", "value", "most", "is_unsaid", "last", "other", "counts", "least", "words", "count"]) (sc := fnScope sLcom) (by decide +kernel)) (fun _ _ _ _ _ => (pg_name (i := 14) scLcom.nd rfl (Or.inl rfl))) (fun _ _ _ _ _ => pts_one (pt_cmpR oIsNot (pv 14) pe_non (nomark _))) (fun _ _ _ _ _ => pv 14))
      (pss_cut (ps_set (i := 12) scLcom.nd rfl (Or.inl rfl) (pe_ifExp (pt_cmpR op_eq (pv 8) (pe_ix (kIxT K) (pv 10) pe_int (fun _ _ => rfl)) (nomark _)) pe_int pe_int))
      (pss_one (ps_expr (kBM K (pe_bm PySem.F.plainAttrs_list PySem.F.slot_list_append PySem.F.type_list_append mt_append (pv 4) (pa_cons (pe_tup (pa_cons (pv 5) (pa_cons (pv 6) (pa_cons (pv 12) (pa_cons (pe_ifExp (pt_truth (pv 11) (by intro _; rfl)) (pe_callB (kMin K) (by rfl) Z.min (by decide +kernel) (pa_cons (pv 11) pa_nil)) pe_non) (pa_cons (pe_and (pv 8) (pe_one (pe_ix (kIxT K) (pv 10) pe_int (fun _ _ => rfl)))) (pa_cons (pe_callB kMin2 (by rfl) Z.min (by decide +kernel) (pa_cons (pv 9) (pa_cons (pe_ix (kIxT K) (pv 10) pe_int (fun _ _ => rfl)) pa_nil))) pa_nil))))))) pa_nil))))))))
        (pss_nil))))
      (pss_cons (ps_set (i := 13) scLcom.nd rfl (Or.inr rfl) (pe_lc (own := [("row", 3)]) (g := gName 3) (tt := tYes) rfl scLcom.nd (kiL K (pe_dget (hu_of hr) (pv 1) pe_str (fun _ _ => rfl))) (blkOk_by (own := [("row", 3)]) (N := ["first", "second", "known", "row", "rows", "word", "value", "most", "is_unsaid", "last", "other", "counts", "least", "words", "count"]) (sc := fnScope sLcom) (by decide +kernel)) (fun _ _ _ _ _ => (pg_name (i := 3) scLcom.nd rfl (Or.inl rfl))) (fun _ _ _ _ _ => pts_nil) (fun _ _ _ _ _ => pe_ix (kIxT K) (pv 3) pe_int (fun _ _ => rfl))))
      (pss_one (ps_ret (pe_disp (pps_cons pe_str (pe_lc (own := [("row", 3)]) (g := gName 3) rfl scLcom.nd (kiL K (pe_dget (hu_of hr) (pv 0) pe_str (fun _ _ => rfl))) (blkOk_by (own := [("row", 3)]) (N := ["first", "second", "known", "row", "rows", "word", "value", "most", "is_unsaid", "last", "other", "counts", "least", "words", "count"]) (sc := fnScope sLcom) (by decide +kernel)) (fun _ _ _ _ _ => (pg_name (i := 3) scLcom.nd rfl (Or.inl rfl))) (fun _ _ _ _ _ => pts_one (pt_cmpR (kIn K) (pe_ix (kIxT K) (pv 3) pe_int (fun _ _ => rfl)) (pv 13) (by rfl))) (fun _ _ _ _ _ => pv 3)) (pps_cons pe_str (pv 4) pps_nil)) rfl rfl (by intro h; cases h) (by decide)))))))), ?_⟩
    obtain ⟨s, m, xs, ys, hr0, hs, hts, hm, htm⟩ := id hR
    obtain ⟨s', m', xs', ys', hr0', hs', hts', hm', htm'⟩ := id hR'
    have lx := hts.len
    have ly := htm.len
    have lx' := hts'.len
    have ly' := htm'.len
    rw [List.length_map] at lx ly lx' ly'
    have sl := hg.sl
    have ml := hg.ml
    have sl' := hg'.sl
    have ml' := hg'.ml
    obtain ⟨nd1', nd2', nd3'⟩ := List.nodup_append.mp hg'.nd
    walk_at "go"
    refine dnew fun d hd => R.gen hd fun H1 s1 h1 => ?_
    have d0 := hd
    have hr1 := s1 _ _ hr0'
    walk_at "rd"
    refine for_it (walk_list (K := K) (a := m') (xs := ys')) (fun i σ' H' => ∃ q3, σ' = [some (.ref r), some (.ref r'), some (.ref d), q3, none, none, none, none, none, none, none, none, none, none, none] ∧ SameBut d H H' ∧ MulAt H' d (mvL (ms'.take i)) i)
      ⟨_, rfl, SameBut.of s1, [], h1, Nat.zero_le _, fun z => rfl⟩ (fun i σ' H' _ hh => by obtain ⟨_, _, e, _⟩ := hh; exact SqL.of (e _ _ (ne_of_none hm' d0) hm')) ?_ ?_
    · rintro i u σ' H2 H2' hi ⟨q3, rfl, e2, k2⟩ ⟨rfl, hu⟩
      have hri : ms'[i]? = some ms'[i] := List.getElem?_eq_getElem (by omega)
      obtain ⟨b, hya, hb⟩ := htm'.get i (mrV ms'[i]) (by rw [List.getElem?_map, hri]; rfl)
      rw [hya] at hu
      cases hu
      have hkn := mvL_snoc (i := i) (by omega) nd2'
      generalize ms'[i] = mm at *
      have hb2 := e2 _ _ (ne_of_none hb d0) hb
      have hb2' := hb2
      unfold mrV at hb2
      refine R.gname ?_
      obtain ⟨kvs, z1, z2, z3⟩ := k2.put (z := mm.w) (m := mm) hb2'
      walk_at "rd"
      refine R.dput z1 (small1000 (by omega)) ?_
      rw [hkn] at z3
      exact ⟨_, rfl, e2.put, z3⟩
    · rintro σ' H2 ⟨q3, rfl, e2, k2⟩
      rw [ly', List.take_of_length_le (Nat.le_refl _)] at k2
      have hr2 := e2 _ _ (ne_of_none hr0 d0) hr0
      have hm2 := e2 _ _ (ne_of_none hm d0) hm
      have htm2 := htm.keep fun a x h => e2 _ _ (ne_of_none h d0) h
      walk_at "rd"
      refine ⟨by decide, fun D hD => R.gen hD fun H3 s3 h3 => ?_⟩
      have hr3 := s3 _ _ hr2
      have k3 := k2.same s3
      have htm3 := htm2.keep fun a x h => s3 _ _ h
      have e3 := e2.trans (SameBut.of s3)
      have hm3 := s3 _ _ hm2
      have D0 := hD
      walk_at "rd"
      refine for_it (walk_list (K := K) (a := m) (xs := ys)) (fun i σ' H' => ∃ q5 q6 q7 q8 q9 q10 q11 q12, σ' = [some (.ref r), some (.ref r'), some (.ref d), q3, some (.ref D), q5, q6, q7, q8, q9, q10, q11, q12, none, none] ∧ SameBut D H2 H' ∧ ∃ ac, H' D = some (.lst ac) ∧ TupsAt H' ac ((comL (ms.take i) ms').map cmV))
        ⟨_, _, _, _, _, _, _, _, rfl, SameBut.of s3, [], h3, .nil⟩ (fun i σ' H' _ hh => by obtain ⟨_, _, _, _, _, _, _, _, _, e, _⟩ := hh; exact SqL.of (e _ _ (ne_of_none hm2 D0) hm2)) ?_ ?_
      · rintro i u σ' H4 H4' hi ⟨q5, q6, q7, q8, q9, q10, q11, q12, rfl, e4, ac, h4, T4⟩ ⟨rfl, hu⟩
        have hri : ms[i]? = some ms[i] := List.getElem?_eq_getElem (by omega)
        obtain ⟨b, hya, hb⟩ := htm2.get i (mrV ms[i]) (by rw [List.getElem?_map, hri]; rfl)
        rw [hya] at hu
        cases hu
        have et : ms.take (i + 1) = ms.take i ++ [ms[i]] := by rw [List.take_add_one, hri]; rfl
        have cl : (comL (ms.take i) ms').length ≤ i := by
          unfold comL
          refine Nat.le_trans (List.length_filterMap_le _ _) ?_
          rw [List.length_take]
          omega
        have al := T4.len
        rw [List.length_map] at al
        have es : comL (ms.take (i + 1)) ms' = comL (ms.take i) ms' ++ (match mvL ms' ms[i].w with | some m' => [comM ms[i] m'] | none => []) := by
          unfold comL
          rw [et, List.filterMap_append]
          congr 1
          rw [List.filterMap_cons]
          cases mvL ms' ms[i].w <;> rfl
        rw [es]
        generalize ms[i] = mi at *
        obtain ⟨aw, av, ac', au, ar⟩ := mi
        have hb4 := e4 _ _ (ne_of_none hb D0) hb
        replace hb4 : H4' b = some (.tup [.str aw, .int av, ocnt ac', .bl au, .int ar]) := hb4
        have k4 : MulAt H4' d (mvL ms') ms'.length := k2.keep (fun a x h => e4 _ _ (ne_of_none h D0) h) fun _ q => e4 _ _ (ne_of_none q D0) q
        obtain ⟨kvs, z1, z2, z3⟩ := k4
        have z3w := z3 aw
        refine R.gtup (SqT.of hb4) rfl ?_
        refine R.gcons ?_
        refine R.gname ?_
        refine R.gcons ?_
        refine R.gname ?_
        refine R.gcons ?_
        refine R.gname ?_
        refine R.gcons ?_
        refine R.gname ?_
        refine R.gcons ?_
        refine R.gname ?_
        refine R.gnil ?_
        walk_at "rd"
        refine R.din z1 ?_
        cases hk : mvL ms' aw with
        | none =>
          rw [hk] at z3w
          replace z3w : valV kvs (Sum.inr aw) = none := z3w
          rw [z3w]
          refine ⟨false, rfl, ?_⟩
          rw [if_neg Bool.false_ne_true]
          dsimp only
          rw [List.append_nil]
          exact ⟨_, _, _, _, _, _, _, _, rfl, e4, ac, h4, T4⟩
        | some mm =>
          rw [hk] at z3w
          obtain ⟨tb, y1, y2⟩ := z3w
          rw [y1]
          refine ⟨true, rfl, ?_⟩
          rw [if_pos rfl]
          obtain ⟨bw, bv, bc, bu, br⟩ := mm
          replace y2 : H4' tb = some (.tup [.str bw, .int bv, ocnt bc, .bl bu, .int br]) := y2
          walk_at "rd"
          refine R.dgetS z1 y1 ?_
          walk_at "rd"
          refine ⟨by decide, fun p hp => R.gen hp fun H5 s5 h5 => ?_⟩
          have hb5 := s5 _ _ hb4
          have y5 := s5 _ _ y2
          refine ⟨p, rfl, ⟨_, SqT.of h5⟩, fun D1 hD1 => ?_⟩
          refine lc_it (walk_tup (K := K) (a := p) (xs := [ac', bc].map ocnt)) (fun i H' => Same H5 H' ∧ H' D1 = some (.lst ((([ac', bc].take i).filterMap id).map V.int))) ⟨same_new (Same.refl _) hD1, upd_same⟩ (fun i H' _ hh => SqT.of (hh.1 _ _ h5)) ?_ ?_
          · rintro j u H6 H6' hj ⟨s6, h6⟩ ⟨rfl, hu⟩
            rw [List.getElem?_map] at hu
            obtain ⟨o, ho, rfl⟩ := Option.map_eq_some_iff.mp hu
            have et : [ac', bc].take (j + 1) = [ac', bc].take j ++ [o] := by rw [List.take_add_one, ho]; rfl
            have ll : (([ac', bc].take j).filterMap id).length ≤ 2 := Nat.le_trans (List.length_filterMap_le _ _) (by rw [List.length_take]; exact Nat.min_le_right _ _)
            rw [et, List.filterMap_append, List.map_append]
            refine R.gname ⟨rfl, ?_⟩
            walk_at "rd"
            cases o with
            | none =>
              refine inoY rfl ?_
              refine ⟨s6, ?_⟩
              rw [h6]
              show some (HO.lst _) = some (HO.lst (_ ++ []))
              rw [List.append_nil]
            | some c =>
              refine inoN (fun z => nomatch z) ?_
              walk_at "rd"
              exact ⟨_, h6, small1000 (by rw [List.length_map]; omega), same_put s6 hD1, upd_same⟩
          · rintro H6 ⟨s6, h6⟩
            rw [List.length_map, List.take_of_length_le (Nat.le_refl _)] at h6
            have hb6 := s6 _ _ hb5
            have y6 := s6 _ _ y5
            have s46 := s5.trans s6
            refine R.gname ?_
            refine R.cut (fun σ' H' => σ' = [some (.ref r), some (.ref r'), some (.ref d), q3, some (.ref D), some (.str aw), some (.int av), some (ocnt ac'), some (.bl au), some (.int ar), some (.ref tb), some (.ref D1), some (.int (if au = bu then 1 else 2)), none, none] ∧ H' = H6) ?_ ?_
            · walk_at "rd"
              refine it (fun z1 => ?_) (fun z1 => ?_)
              · walk_at "rd"
                exact ⟨by rw [if_pos (L2.V.bl.inj z1)] <;> rfl, rfl⟩
              · walk_at "rd"
                exact ⟨by rw [if_neg (fun e => z1 (by rw [e]))] <;> rfl, rfl⟩
            · rintro σ1 H7 ⟨rfl, rfl⟩
              have l1000 : ac.length < sizeLine := small1000 (by omega)
              have h47 : H7 D = some (.lst ac) := s46 _ _ h4
              have fin : ∀ (u : Bool) (cv : V) (H8 : Hp) (t : Addr), cv = ocnt (lesserC ac' bc) → u = (au && bu) → Same H7 H8 → H8 t = some (.tup [V.str aw, .int av, .int (if au = bu then 1 else 2), cv, .bl u, .int (if br < ar then br else ar)]) →
                  SameBut D H2 (upd H8 D (.lst (ac ++ [.ref t]))) ∧ ∃ ac2, upd H8 D (.lst (ac ++ [.ref t])) D = some (.lst ac2) ∧ TupsAt (upd H8 D (.lst (ac ++ [.ref t]))) ac2 ((comL (ms.take i) ms' ++ [comM ⟨aw, av, ac', au, ar⟩ ⟨bw, bv, bc, bu, br⟩]).map cmV) := fun u cv H8 t hc hu s8 h8 => by
                subst hc hu
                have h48 := s8 _ _ h47
                refine ⟨(e4.trans (SameBut.of (s46.trans s8))).put, _, upd_same, ?_⟩
                rw [List.map_append]
                exact (T4.keep fun a x h => keep_list h48 _ _ (s8 _ _ (s46 _ _ h))).snoc (keep_list h48 _ _ h8)
              obtain ⟨lz, lm⟩ := lesser_cs ac' bc
              walk_at "rd"
              refine truL' h6 ?_
              cases hcs : [ac', bc].filterMap id with
              | nil =>
                have hc : V.non = ocnt (lesserC ac' bc) := by rw [lz hcs]; rfl
                rw [if_neg (by exact Bool.false_ne_true)]
                walk_at "rd"
                cases au with
                | true =>
                  walk_at "rd"
                  refine ⟨by decide, fun t ht => R.gen ht fun H8 s8 h8 => ?_⟩
                  have h48 := s8 _ _ h47
                  walk_at "rd"
                  exact ⟨_, _, _, _, _, _, _, _, rfl, fin bu _ H8 t hc rfl s8 h8⟩
                | false =>
                  walk_at "rd"
                  refine ⟨by decide, fun t ht => R.gen ht fun H8 s8 h8 => ?_⟩
                  have h48 := s8 _ _ h47
                  walk_at "rd"
                  exact ⟨_, _, _, _, _, _, _, _, rfl, fin false _ H8 t hc rfl s8 h8⟩
              | cons c0 cr =>
                rw [if_pos (by rfl)]
                walk_at "rd"
                refine ⟨D1, _, rfl, SqL.of h6, by rw [hcs]; exact Nat.succ_pos _, fun mn hmn hle => ?_⟩
                have hc : V.int mn = ocnt (lesserC ac' bc) := by rw [lm mn hmn hle]; rfl
                walk_at "rd"
                cases au with
                | true =>
                  walk_at "rd"
                  refine ⟨by decide, fun t ht => R.gen ht fun H8 s8 h8 => ?_⟩
                  have h48 := s8 _ _ h47
                  walk_at "rd"
                  exact ⟨_, _, _, _, _, _, _, _, rfl, fin bu _ H8 t hc rfl s8 h8⟩
                | false =>
                  walk_at "rd"
                  refine ⟨by decide, fun t ht => R.gen ht fun H8 s8 h8 => ?_⟩
                  have h48 := s8 _ _ h47
                  walk_at "rd"
                  exact ⟨_, _, _, _, _, _, _, _, rfl, fin false _ H8 t hc rfl s8 h8⟩
      · rintro σ' H4 ⟨q5, q6, q7, q8, q9, q10, q11, q12, rfl, e4, ac, h4, T4⟩
        rw [ly, List.take_of_length_le (Nat.le_refl _)] at T4
        have kp : ∀ a o, H a = some o → H4 a = some o := fun a o h => e4 _ _ (ne_of_none (e2 _ _ (ne_of_none h d0) h) D0) (e2 _ _ (ne_of_none h d0) h)
        have r4' := kp _ _ hr0'
        have s4' := kp _ _ hs'
        have r4 := kp _ _ hr0
        have t4s := kp _ _ hs
        walk_at "rd"
        walk_at "rd"
        intro D2 hD2
        refine lc_it (walk_list (K := K) (a := s') (xs := xs')) (fun i H' => Same H4 H' ∧ H' D2 = some (.lst (((rs'.take i).map (·.w)).map V.str))) ⟨same_new (Same.refl _) hD2, upd_same⟩ (fun i H' _ hh => SqL.of (hh.1 _ _ s4')) ?_ ?_
        · rintro i u H5 H5' hi ⟨s5, h5⟩ ⟨rfl, hu⟩
          have hri : rs'[i]? = some rs'[i] := List.getElem?_eq_getElem (by omega)
          obtain ⟨b, hya, hb⟩ := hts'.get i (srV rs'[i]) (by rw [List.getElem?_map, hri]; rfl)
          rw [hya] at hu
          cases hu
          have et : rs'.take (i + 1) = rs'.take i ++ [rs'[i]] := by rw [List.take_add_one, hri]; rfl
          have ll : (rs'.take i).length ≤ i := by rw [List.length_take]; omega
          rw [et, List.map_append, List.map_append]
          generalize rs'[i] = rr at *
          have hb5 : H5' b = some (.tup [.str rr.w, .int rr.v]) := s5 _ _ (kp _ _ hb)
          refine R.gname ⟨rfl, ?_⟩
          refine yes ?_
          rw [if_pos rfl]
          walk_at "rd"
          exact ⟨_, h5, small1000 (by rw [List.length_map, List.length_map]; omega), same_put s5 hD2, upd_same⟩
        · rintro H5 ⟨s5, h5⟩
          rw [lx', List.take_of_length_le (Nat.le_refl _)] at h5
          have kp5 : ∀ a o, H a = some o → H5 a = some o := fun a o h => s5 _ _ (kp a o h)
          have r5 := kp5 _ _ hr0
          have t5s := kp5 _ _ hs
          have h45 := s5 _ _ h4
          have T5 := T4.keep fun a x h => s5 _ _ h
          walk_at "rd"
          refine disp fun t ht => R.gen ht fun H5t s5t h5t => ?_
          have t0 : H4 t = none := s5.free ht
          have tH : H t = none := (show Same H H4 from fun a o h => kp a o h).free t0
          replace r5 := s5t _ _ r5
          replace t5s := s5t _ _ t5s
          replace h45 := s5t _ _ h45
          replace h5 := s5t _ _ h5
          replace T5 := T5.keep fun a x h => s5t _ _ h
          have kp5' : ∀ a o, H a = some o → H5t a = some o := fun a o h => s5t _ _ (kp5 a o h)
          unfold tPairs
          walk_at "rd"
          intro D3 hD3
          refine lc_it (walk_list (K := K) (a := s) (xs := xs)) (fun i H' => Same H5t H' ∧ ∃ acc, H' D3 = some (.lst acc) ∧ TupsAt H' acc ((comS (rs.take i) rs').map srV)) ⟨same_new (Same.refl _) hD3, [], upd_same, .nil⟩ (fun i H' _ hh => SqL.of (hh.1 _ _ t5s)) ?_ ?_
          · rintro i u H6 H6' hi ⟨s6, acc, h6, T6⟩ ⟨rfl, hu⟩
            have hri : rs[i]? = some rs[i] := List.getElem?_eq_getElem (by omega)
            obtain ⟨b, hya, hb⟩ := hts.get i (srV rs[i]) (by rw [List.getElem?_map, hri]; rfl)
            rw [hya] at hu
            cases hu
            have et : rs.take (i + 1) = rs.take i ++ [rs[i]] := by rw [List.take_add_one, hri]; rfl
            have cl : (comS (rs.take i) rs').length ≤ i := by
              unfold comS
              refine Nat.le_trans (List.length_filter_le _ _) ?_
              rw [List.length_take]
              omega
            have al := T6.len
            rw [List.length_map] at al
            have es : comS (rs.take (i + 1)) rs' = comS (rs.take i) rs' ++ (if (svL rs' rs[i].w).isSome = true then [rs[i]] else []) := by
              unfold comS
              rw [et, List.filter_append]
              congr 1
              by_cases h : (svL rs' rs[i].w).isSome = true
              · rw [if_pos h, List.filter_cons_of_pos (by exact h)]; rfl
              · rw [if_neg h, List.filter_cons_of_neg (by exact h)]; rfl
            rw [es]
            generalize rs[i] = rr at *
            have hb6 : H6' b = some (.tup [.str rr.w, .int rr.v]) := s6 _ _ (kp5' _ _ hb)
            have h56 := s6 _ _ h5
            rw [svL_some]
            refine R.gname ⟨rfl, ?_⟩
            walk_at "rd"
            refine inL h56 rfl (R.flat_strs _) (R.in_strs _ _) ?_
            refine ⟨_, rfl, ?_⟩
            by_cases hin : rr.w ∈ rs'.map (·.w)
            · rw [decide_eq_true hin, if_pos rfl, if_pos rfl]
              walk_at "rd"
              rw [List.map_append]
              exact ⟨acc, h6, small1000 (by omega), same_put s6 hD3, _, upd_same, (T6.keep (keep_list h6)).snoc (keep_list h6 _ _ hb6)⟩
            · rw [decide_eq_false hin, if_neg Bool.false_ne_true, if_neg Bool.false_ne_true, List.append_nil]
              exact ⟨s6, acc, h6, T6⟩
          · rintro H6 ⟨s6, acc, h6, T6⟩
            rw [lx, List.take_of_length_le (Nat.le_refl _)] at T6
            have h46 := s6 _ _ h45
            have T6' := T5.keep fun a x h => s6 _ _ h
            have kp6 : Same H H6 := fun a o h => s6 _ _ (kp5' a o h)
            have h6t := s6 _ _ h5t
            walk_at "rd"
            unfold tPairs
            walk_at "rd"
            unfold tPairs
            refine ⟨h6t, rowsKs D3 D, rfl, by show 2 ≤ 15; decide, ?_⟩
            rw [rowsMerge]
            have nt : ∀ {a : Addr} {xs : List V}, H6 a = some (.lst xs) → upd H6 t (.dK (rowsKs D3 D)) a = some (.lst xs) := fun h => by rw [upd_ne (ne_of h h6t (by intro z; cases z))]; exact h
            have ntt : TupKeep H6 (upd H6 t (.dK (rowsKs D3 D))) := fun a xs h => by rw [upd_ne (ne_of h h6t (by intro z; cases z))]; exact h
            exact k _ t D3 D acc ac (same_put kp6 tH) upd_same (nt h6) (T6.keep ntt) (nt h46) (T6'.keep ntt)
end
end KN
end
section
set_option Elab.async false
set_option linter.all false
set_option maxRecDepth 100000
set_option maxHeartbeats 4000000
set_option pp.maxSteps 1500
set_option pp.deepTerms false
local macro_rules | `(tactic| walk_at "ne") => `(tactic| first
  | assumption | (apply Ne.symm; assumption)
  | exact R.ne_new (by assumption) | exact (R.ne_new (by assumption)).symm
  | exact L2.ne_of_none (by assumption) (by assumption) | exact (L2.ne_of_none (by assumption) (by assumption)).symm
  | exact L2.ne_of_none (by assumption) (R.free_new (by assumption)) | exact (L2.ne_of_none (by assumption) (R.free_new (by assumption))).symm)
local macro_rules | `(tactic| walk_at "at") => `(tactic| first
  | assumption | exact L2.upd_same
  | (refine R.sb (H := ?H) (p := ?p) ?e ?n ?h; (case e => assumption); (case n => walk_at "ne"); (case h => walk_at "at"))
  | (refine R.sm (H := ?H) ?e ?h; (case e => assumption); (case h => walk_at "at"))
  | (refine Eq.trans (L2.upd_ne ?_) ?_ <;> first | walk_at "ne" | walk_at "at"))
local macro_rules | `(tactic| walk_at "sqt") => `(tactic| first | assumption | (refine L2.SqT.of ?_; walk_at "at"))
local macro_rules | `(tactic| walk_at "ty") => `(tactic| first | exact R.tyN | exact R.tyB | exact R.tyI | exact R.tyS | (refine R.tyT (xs := ?xs) ?h; case h => walk_at "at") | (refine R.tyL (xs := ?xs) ?h; case h => walk_at "at"))
local macro_rules | `(tactic| walk_at "kit") => `(tactic| first | exact R.kit_NoneType_tuple | exact R.kit_NoneType_list | exact R.kit_NoneType_bool | exact R.kit_NoneType_str | exact R.kit_NoneType_int | exact R.kit_bool_tuple | exact R.kit_bool_list | exact R.kit_bool_bool | exact R.kit_bool_str | exact R.kit_bool_int | exact R.kit_int_tuple | exact R.kit_int_list | exact R.kit_int_bool | exact R.kit_int_str | exact R.kit_int_int | exact R.kit_str_tuple | exact R.kit_str_list | exact R.kit_str_bool | exact R.kit_str_str | exact R.kit_str_int | exact R.kit_tuple_tuple | exact R.kit_tuple_list | exact R.kit_tuple_bool | exact R.kit_tuple_str | exact R.kit_tuple_int | exact R.kit_list_tuple | exact R.kit_list_list | exact R.kit_list_bool | exact R.kit_list_str | exact R.kit_list_int)
local macro_rules | `(tactic| walk_at "sz") => `(tactic| first | assumption | (refine Nat.le_trans ?_ (show 1000 ≤ PySem.sizeLine by decide); omega) | decide)
local macro_rules | `(tactic| walk_at "szl") => `(tactic| first | assumption | exact Nat.le_of_lt (L2.small1000 (by omega)) | decide | decide +kernel)
local macro_rules | `(tactic| walk_at "sys") => `(tactic| first | assumption | exact KN.SysAt.same (by assumption) (by assumption))
local macro_rules | `(tactic| walk_at "dk") => `(tactic| first | exact R.rowsS _ _ | exact R.rowsM _ _)
local macro_rules | `(tactic| walk_at "sqa") => `(tactic| first | assumption | exact R.SeqA.same (by assumption) (by assumption) | exact R.SeqA.new (by assumption) (by assumption) | (exact Or.inl (by walk_at "at")) | (exact Or.inr (by walk_at "at")))
local macro_rules | `(tactic| walk_at "ix") => `(tactic| first | rfl | (exact L2.atI_nat (by assumption)) | assumption)
local macro_rules | `(tactic| walk_at "cond") => `(tactic| first
  | exact Or.inl (by decide) | exact Or.inr (by decide) | exact Or.inl ⟨by omega, by omega⟩ | exact Or.inr ⟨by omega, by omega⟩
  | (constructor <;> omega) | (show _ ≠ _; omega) | decide | omega)
local macro_rules | `(tactic| walk_at "r1") => `(tactic| first
  | ((with_reducible refine R.var (v := ?v) ?h ?q); case h => rfl)
  | with_reducible apply R.cons
  | with_reducible apply R.c
  | with_reducible apply R.nil
  | with_reducible apply R.op
  | with_reducible apply R.gname
  | with_reducible apply R.seq
  | with_reducible apply R.call
  | with_reducible apply R.asg
  | with_reducible apply R.ex
  | with_reducible apply R.tst
  | with_reducible apply R.i0
  | with_reducible apply R.ifs
  | with_reducible apply R.ret
  | with_reducible apply R.retN
  | with_reducible apply R.drop
  | with_reducible apply R.next
  | with_reducible apply R.tb_
  | with_reducible apply R.eqI
  | with_reducible apply R.neI
  | ((with_reducible refine R.ic ?_ ?_); · walk_at "cond")
  | with_reducible apply R.u0
  | with_reducible apply R.un
  | ((with_reducible refine R.eq ?_ ?_); · rfl)
  | ((with_reducible refine R.ne ?_ ?_); · rfl)
  | with_reducible apply R.and_
  | with_reducible apply R.or_
  | with_reducible apply R.not_
  | with_reducible apply R.ife
  | with_reducible apply R.chain
  | with_reducible apply R.cb
  | with_reducible apply R.bm
  | with_reducible apply R.gsub
  | with_reducible apply R.gnil
  | with_reducible apply R.gcons
  | with_reducible apply R.yes
  | with_reducible apply R.int1
  | ((with_reducible refine R.lenL (xs := ?xs) ?h ?q); case h => walk_at "at")
  | ((with_reducible refine R.ixL (xs := ?xs) (v := ?v) ?h ?e ?q); (case h => walk_at "at"); (case e => walk_at "ix"))
  | ((with_reducible refine R.setL (xs := ?xs) (n := ?n) ?h ?e ?q); (case h => walk_at "at"); (case e => rfl))
  | ((with_reducible refine R.append (xs := ?xs) ?h ?e ?q); (case h => walk_at "at"); (case e => walk_at "cond"))
  | with_reducible apply R.is_
  | with_reducible apply R.isnot
  | with_reducible apply R.andV
  | with_reducible apply R.orV
  | with_reducible apply R.notV
  | ((with_reducible refine R.isi (s := ?s) (b := ?b) ?ty ?h ?q); (case ty => walk_at "ty"); (case h => walk_at "kit"))
  | ((with_reducible refine R.addS ?h ?q); (case h => walk_at "sz"))
  | with_reducible apply R.max2
  | with_reducible apply R.min2
  | ((with_reducible refine R.lenStr ?h ?q); (case h => walk_at "szl"))
  | ((with_reducible refine R.ixS (n := ?n) ?h ?e ?q); (case h => walk_at "szl"); (case e => walk_at "ix"))
  | ((with_reducible refine R.tyl (xs := ?xs) ?h ?q); (case h => walk_at "at"))
  | with_reducible apply R.itlist
  | with_reducible apply R.ittup
  | with_reducible apply R.m1
  | with_reducible apply R.m1s
  | with_reducible apply R.leS
  | with_reducible apply R.itstr
  | with_reducible apply R.itstrE
  | with_reducible apply R.lc
  | with_reducible apply R.lc2
  | with_reducible apply R.ckw
  | with_reducible apply R.par
  | with_reducible apply R.parE
  | with_reducible apply R.itrev
  | with_reducible apply R.dsetd
  | with_reducible apply R.dnotin_
  | with_reducible apply R.for_
  | ((with_reducible refine R.all_ (bs := ?bs) ?h ?q); (case h => walk_at "at"))
  | with_reducible apply R.rng1
  | ((with_reducible refine R.rngE ?h ?q); (case h => (constructor <;> omega)))
  | ((with_reducible refine R.lenT (xs := ?xs) ?h ?q); (case h => walk_at "sqt"))
  | ((with_reducible refine R.ixT (xs := ?xs) (v := ?v) ?h ?e ?q); (case h => walk_at "sqt"); (case e => walk_at "ix"))
  | ((refine R.itlE (xs := ?xs) ?h ?q); (case h => walk_at "at"))
  | ((refine R.ittE (xs := ?xs) ?h ?q); (case h => walk_at "at"))
  | ((refine R.gseq (xs := ?xs) ?h ?e ?q); (case h => walk_at "sqa"); (case e => rfl))
  | ((refine R.ixA (xs := ?xs) (v := ?v) ?h ?e ?q); (case h => walk_at "sqa"); (case e => walk_at "ix"))
  | ((refine R.lenA (xs := ?xs) ?h ?q); (case h => walk_at "sqa"))
  | ((with_reducible refine R.gtup (xs := ?xs) ?h ?e ?q); (case h => walk_at "sqt"); (case e => rfl))
  | with_reducible apply R.din_
  | with_reducible apply R.dput_
  | with_reducible apply R.dget2_
  | ((with_reducible refine R.aug_ (x := ?x) ?h ?q); case h => rfl)
  | with_reducible apply R.ipI_
  | with_reducible apply R.rng2
  | ((with_reducible refine R.rngE2 ?h ?q); (case h => (refine ⟨?_, ?_, ?_, ?_⟩ <;> omega)))
  | with_reducible apply R.brk
  | with_reducible apply R.intB
  | with_reducible apply R.meth_
  | ((refine KN.methS (rs := ?rs) (ms := ?ms) ?h (fun _ _ _ _ => rfl) ?q); case h => walk_at "sys")
  | with_reducible apply R.sl_
  | with_reducible apply R.np_
  | with_reducible apply R.pt_
  | with_reducible apply R.ptE
  | with_reducible apply R.dget_
  | with_reducible apply R.revL_
  | ((refine R.dgetS (kvs := ?kvs) (v := ?v) ?h ?e ?q); (case h => walk_at "at"); (case e => walk_at "dk"))
  | with_reducible apply R.sfld
  | with_reducible apply R.fld_
  | with_reducible apply R.dc
  | with_reducible apply R.dget1_
  | with_reducible apply R.itseq
  | with_reducible apply R.itenum
  | with_reducible apply R.itT
  | with_reducible apply R.itF
  | with_reducible apply R.itNT
  | with_reducible apply R.itNF
  | (with_reducible apply R.tup)
  | (with_reducible apply R.lst))
local macro_rules | `(tactic| walk_at "rd") => `(tactic| (repeat (first | walk_at "r1" | (dsimp only [Int.reduceToNat, List.set_cons_succ, List.set_cons_zero, List.length_cons, List.length_nil, List.nil_append, List.cons_append, List.append_nil]))))
local macro_rules | `(tactic| walk_at "go") => `(tactic| (rw [R.start_eq]; dsimp only [R.startE, List.map_nil]; walk_at "rd"))
namespace L2
open PySem PySem.Spec PyProof.Rows
/-- isinstance of the caught error at a, whose class is D and whose own dict stands at d -/
def rIsE2 (K : PySem.W.Frag) (D a : Addr) (cls : Value) (d : Option Addr) : List V → Hp → VK → Prop := fun xs H Q => ∃ (c : V) (cv : Value) (b : Bool) (dd : Addr) (fs : List (Str × V)), xs = [.ref a, c] ∧ cls = .ref D ∧ d = some dd ∧ H dd = some (.xd fs) ∧
  (∀ u, RelV c u → u = cv) ∧ PySem.W.kitOne K (.ref D) cv = some b ∧ Q (.bl b) H
structure ExcD (K : PySem.W.Frag) (D : Addr) : Prop where
  cl : (PySem.W.clsIn K D).isSome = true
  ga : PySem.W.findIn K (.ref D) "__getattribute__" = some (some (.builtin "BaseException.__getattribute__"))
  gg : PySem.W.findIn K (.ref D) "__getattr__" = some none
  ex : PySem.W.subIn K (.ref D) (.type "BaseException") = some true
  ca : PySem.W.findIn K (.ref D) "__class__" = some (some (.builtin "object.__class__"))
  cn : PySem.W.specialIn K (.builtin "object.__class__") "__get__" = some (some (.builtin "getset_descriptor.__get__"))
  ct : PySem.W.takesIn K (.builtin "object.__class__") = some true
  cm : PySem.W.mroIn K D (.type "object") = some true
theorem call_isE2 {X : Cx} {a D : Addr} {oe : Obj} {cls : Value} {d : Option Addr} {pn : List (Addr × Obj)} (C : ExcD X.K D) (hz : Zc cls d oe) (hf : ∃ vs, oe.data = .fields vs) : CallR (X.suite a ((a, oe) :: pn)) (.builtin "isinstance") (rIsE2 X.K D a cls d) := by
  intro pins s σ H xs us Q I r h
  obtain ⟨c, cv, b, dd, fs, rfl, rfl, rfl, hdd, hcv, hkit, q⟩ := h
  obtain ⟨u1, u2, rfl, r1, r2⟩ := vals2 r
  cases r1
  have e2 := hcv _ r2
  subst e2
  obtain ⟨hget, _⟩ := I.pin (a, oe) (List.mem_append.mpr (.inl List.mem_cons_self))
  obtain ⟨vs, hv⟩ := hf
  have hx : ObjOk X.prog X.w H s.heap dd (.xd fs) := I.hok dd _ hdd
  obtain ⟨mA, hns, hr⟩ := hx
  obtain ⟨od, ho, hl⟩ := lookIn_ns hns
  have J : PySem.W.InstAt s.heap a oe D (some od) := ⟨hget, hz.1, by unfold PySem.W.notCls; rw [hv] <;> rfl, by rw [hz.2]; exact ho⟩
  exact PySem.W.kia_one (PySem.W.kitx_exc C.cl C.ga C.gg C.ex C.ca C.cn C.ct C.cm) I.kIn J hkit (fun z => nomatch z) fun tk => ⟨.bl b, H, I.kept (t' := tk) fun _ _ z => z, rfl, q⟩
end L2
end
section
set_option Elab.async false
set_option linter.all false
set_option maxRecDepth 100000
set_option maxHeartbeats 4000000
set_option pp.maxSteps 1500
set_option pp.deepTerms false
local macro_rules | `(tactic| walk_at "ne") => `(tactic| first
  | assumption | (apply Ne.symm; assumption)
  | exact R.ne_new (by assumption) | exact (R.ne_new (by assumption)).symm
  | exact L2.ne_of_none (by assumption) (by assumption) | exact (L2.ne_of_none (by assumption) (by assumption)).symm
  | exact L2.ne_of_none (by assumption) (R.free_new (by assumption)) | exact (L2.ne_of_none (by assumption) (R.free_new (by assumption))).symm)
local macro_rules | `(tactic| walk_at "at") => `(tactic| first
  | assumption | exact L2.upd_same
  | (refine R.sb (H := ?H) (p := ?p) ?e ?n ?h; (case e => assumption); (case n => walk_at "ne"); (case h => walk_at "at"))
  | (refine R.sm (H := ?H) ?e ?h; (case e => assumption); (case h => walk_at "at"))
  | (refine Eq.trans (L2.upd_ne ?_) ?_ <;> first | walk_at "ne" | walk_at "at"))
local macro_rules | `(tactic| walk_at "sqt") => `(tactic| first | assumption | (refine L2.SqT.of ?_; walk_at "at"))
local macro_rules | `(tactic| walk_at "ty") => `(tactic| first | exact R.tyN | exact R.tyB | exact R.tyI | exact R.tyS | (refine R.tyT (xs := ?xs) ?h; case h => walk_at "at") | (refine R.tyL (xs := ?xs) ?h; case h => walk_at "at"))
local macro_rules | `(tactic| walk_at "kit") => `(tactic| first | exact R.kit_NoneType_tuple | exact R.kit_NoneType_list | exact R.kit_NoneType_bool | exact R.kit_NoneType_str | exact R.kit_NoneType_int | exact R.kit_bool_tuple | exact R.kit_bool_list | exact R.kit_bool_bool | exact R.kit_bool_str | exact R.kit_bool_int | exact R.kit_int_tuple | exact R.kit_int_list | exact R.kit_int_bool | exact R.kit_int_str | exact R.kit_int_int | exact R.kit_str_tuple | exact R.kit_str_list | exact R.kit_str_bool | exact R.kit_str_str | exact R.kit_str_int | exact R.kit_tuple_tuple | exact R.kit_tuple_list | exact R.kit_tuple_bool | exact R.kit_tuple_str | exact R.kit_tuple_int | exact R.kit_list_tuple | exact R.kit_list_list | exact R.kit_list_bool | exact R.kit_list_str | exact R.kit_list_int)
local macro_rules | `(tactic| walk_at "sz") => `(tactic| first | assumption | (refine Nat.le_trans ?_ (show 1000 ≤ PySem.sizeLine by decide); omega) | decide)
local macro_rules | `(tactic| walk_at "szl") => `(tactic| first | assumption | exact Nat.le_of_lt (L2.small1000 (by omega)) | decide | decide +kernel)
local macro_rules | `(tactic| walk_at "sys") => `(tactic| first | assumption | exact KN.SysAt.same (by assumption) (by assumption))
local macro_rules | `(tactic| walk_at "dk") => `(tactic| first | exact R.rowsS _ _ | exact R.rowsM _ _)
local macro_rules | `(tactic| walk_at "sqa") => `(tactic| first | assumption | exact R.SeqA.same (by assumption) (by assumption) | exact R.SeqA.new (by assumption) (by assumption) | (exact Or.inl (by walk_at "at")) | (exact Or.inr (by walk_at "at")))
local macro_rules | `(tactic| walk_at "ix") => `(tactic| first | rfl | (exact L2.atI_nat (by assumption)) | assumption)
local macro_rules | `(tactic| walk_at "cond") => `(tactic| first
  | exact Or.inl (by decide) | exact Or.inr (by decide) | exact Or.inl ⟨by omega, by omega⟩ | exact Or.inr ⟨by omega, by omega⟩
  | (constructor <;> omega) | (show _ ≠ _; omega) | decide | omega)
local macro_rules | `(tactic| walk_at "r1") => `(tactic| first
  | ((with_reducible refine R.var (v := ?v) ?h ?q); case h => rfl)
  | with_reducible apply R.cons
  | with_reducible apply R.c
  | with_reducible apply R.nil
  | with_reducible apply R.op
  | with_reducible apply R.gname
  | with_reducible apply R.seq
  | with_reducible apply R.call
  | with_reducible apply R.asg
  | with_reducible apply R.ex
  | with_reducible apply R.tst
  | with_reducible apply R.i0
  | with_reducible apply R.ifs
  | with_reducible apply R.ret
  | with_reducible apply R.retN
  | with_reducible apply R.drop
  | with_reducible apply R.next
  | with_reducible apply R.tb_
  | with_reducible apply R.eqI
  | with_reducible apply R.neI
  | ((with_reducible refine R.ic ?_ ?_); · walk_at "cond")
  | with_reducible apply R.u0
  | with_reducible apply R.un
  | ((with_reducible refine R.eq ?_ ?_); · rfl)
  | ((with_reducible refine R.ne ?_ ?_); · rfl)
  | with_reducible apply R.and_
  | with_reducible apply R.or_
  | with_reducible apply R.not_
  | with_reducible apply R.ife
  | with_reducible apply R.chain
  | with_reducible apply R.cb
  | with_reducible apply R.bm
  | with_reducible apply R.gsub
  | with_reducible apply R.gnil
  | with_reducible apply R.gcons
  | with_reducible apply R.yes
  | with_reducible apply R.int1
  | ((with_reducible refine R.lenL (xs := ?xs) ?h ?q); case h => walk_at "at")
  | ((with_reducible refine R.ixL (xs := ?xs) (v := ?v) ?h ?e ?q); (case h => walk_at "at"); (case e => walk_at "ix"))
  | ((with_reducible refine R.setL (xs := ?xs) (n := ?n) ?h ?e ?q); (case h => walk_at "at"); (case e => rfl))
  | ((with_reducible refine R.append (xs := ?xs) ?h ?e ?q); (case h => walk_at "at"); (case e => walk_at "cond"))
  | with_reducible apply R.is_
  | with_reducible apply R.isnot
  | with_reducible apply R.andV
  | with_reducible apply R.orV
  | with_reducible apply R.notV
  | ((with_reducible refine R.isi (s := ?s) (b := ?b) ?ty ?h ?q); (case ty => walk_at "ty"); (case h => walk_at "kit"))
  | ((with_reducible refine R.addS ?h ?q); (case h => walk_at "sz"))
  | with_reducible apply R.max2
  | with_reducible apply R.min2
  | ((with_reducible refine R.lenStr ?h ?q); (case h => walk_at "szl"))
  | ((with_reducible refine R.ixS (n := ?n) ?h ?e ?q); (case h => walk_at "szl"); (case e => walk_at "ix"))
  | ((with_reducible refine R.tyl (xs := ?xs) ?h ?q); (case h => walk_at "at"))
  | with_reducible apply R.itlist
  | with_reducible apply R.ittup
  | with_reducible apply R.m1
  | with_reducible apply R.m1s
  | with_reducible apply R.leS
  | with_reducible apply R.itstr
  | with_reducible apply R.itstrE
  | with_reducible apply R.lc
  | with_reducible apply R.lc2
  | with_reducible apply R.ckw
  | with_reducible apply R.par
  | with_reducible apply R.parE
  | with_reducible apply R.itrev
  | with_reducible apply R.dsetd
  | with_reducible apply R.dnotin_
  | with_reducible apply R.for_
  | ((with_reducible refine R.all_ (bs := ?bs) ?h ?q); (case h => walk_at "at"))
  | with_reducible apply R.rng1
  | ((with_reducible refine R.rngE ?h ?q); (case h => (constructor <;> omega)))
  | ((with_reducible refine R.lenT (xs := ?xs) ?h ?q); (case h => walk_at "sqt"))
  | ((with_reducible refine R.ixT (xs := ?xs) (v := ?v) ?h ?e ?q); (case h => walk_at "sqt"); (case e => walk_at "ix"))
  | ((refine R.itlE (xs := ?xs) ?h ?q); (case h => walk_at "at"))
  | ((refine R.ittE (xs := ?xs) ?h ?q); (case h => walk_at "at"))
  | ((refine R.gseq (xs := ?xs) ?h ?e ?q); (case h => walk_at "sqa"); (case e => rfl))
  | ((refine R.ixA (xs := ?xs) (v := ?v) ?h ?e ?q); (case h => walk_at "sqa"); (case e => walk_at "ix"))
  | ((refine R.lenA (xs := ?xs) ?h ?q); (case h => walk_at "sqa"))
  | ((with_reducible refine R.gtup (xs := ?xs) ?h ?e ?q); (case h => walk_at "sqt"); (case e => rfl))
  | with_reducible apply R.din_
  | with_reducible apply R.dput_
  | with_reducible apply R.dget2_
  | ((with_reducible refine R.aug_ (x := ?x) ?h ?q); case h => rfl)
  | with_reducible apply R.ipI_
  | with_reducible apply R.rng2
  | ((with_reducible refine R.rngE2 ?h ?q); (case h => (refine ⟨?_, ?_, ?_, ?_⟩ <;> omega)))
  | with_reducible apply R.brk
  | with_reducible apply R.intB
  | with_reducible apply R.meth_
  | ((refine KN.methS (rs := ?rs) (ms := ?ms) ?h (fun _ _ _ _ => rfl) ?q); case h => walk_at "sys")
  | with_reducible apply R.sl_
  | with_reducible apply R.np_
  | with_reducible apply R.pt_
  | with_reducible apply R.ptE
  | with_reducible apply R.dget_
  | with_reducible apply R.revL_
  | ((refine R.dgetS (kvs := ?kvs) (v := ?v) ?h ?e ?q); (case h => walk_at "at"); (case e => walk_at "dk"))
  | with_reducible apply R.sfld
  | with_reducible apply R.fld_
  | with_reducible apply R.dc
  | with_reducible apply R.dget1_
  | with_reducible apply R.itseq
  | with_reducible apply R.itenum
  | with_reducible apply R.itT
  | with_reducible apply R.itF
  | with_reducible apply R.itNT
  | with_reducible apply R.itNF
  | (with_reducible apply R.tup)
  | (with_reducible apply R.lst))
local macro_rules | `(tactic| walk_at "rd") => `(tactic| (repeat (first | walk_at "r1" | (dsimp only [Int.reduceToNat, List.set_cons_succ, List.set_cons_zero, List.length_cons, List.length_nil, List.nil_append, List.cons_append, List.append_nil]))))
local macro_rules | `(tactic| walk_at "go") => `(tactic| (rw [R.start_eq]; dsimp only [R.startE, List.map_nil]; walk_at "rd"))
local macro_rules | `(tactic| walk_at "r1") => `(tactic| first | with_reducible apply R.callN | with_reducible apply R.tr_ | with_reducible apply R.rng3 | with_reducible apply R.bits | with_reducible apply R.dnewT)
-- RTX
namespace KN
open PySem L2 SX R
open C8 (Cal Def cal0 pe_c pe_gc fnScope fnBody pss_cut Met pe_mt pe_mt0)
section
variable {X : Cx} {k j : Nat} {x : Str} {sp : Sp} {p pos : Pos} {e : Expr} {es : List Expr} {t : TA}
/-- a call of one in a try -/
theorem pe_cS {W : WX} (c : CalX X.prog X.w X.K X.mg X.base k x sp) (hr : Room j X.A) (hk : k ≤ j) (tk : Takes X W) (hg : Gl X x) (ha : PA X (e :: es) t)
    (hdb : (x == ("__debug__" : Str)) = false := by decide) (he : starEach (e :: es) X.env = (false, eval e X.env) :: starEach es X.env := by rfl) (hpl : (backTo pos (starEach es X.env)).any (·.1) = false := by rfl) :
    PE X (.Call (.Name x p) (e :: es) [] pos) (tCallS sp (WE W) t) := by
  obtain ⟨f, fd, ps, F, hm, kp, b⟩ := c.ex
  exact pe_callS F (hr.mono hk) hg hm kp b (fun σ => passAt tk σ) ha hdb he hpl
end
/-- what is asked of a caught error of the class at C -/
structure TellU (K : PySem.W.Frag) (mg : Str → Option Value) (C CS : Addr) : Prop where
  d : ExcD K C
  x : XfC K C
  exm : PySem.W.exmOne K (.ref C) (.ref C) = some true
  gE : mg "SayError" = some (.ref CS)
  k1 : PySem.W.kitOne K (.ref C) (.ref CS) = some true
section
variable {P : Program} {w : World} {K : PySem.W.Frag} {mg : Str → Option Value} {base : Heap}
abbrev sLask : Stmt := top 50
theorem scLask : FnScope ["kind", "first", "second", "wrong"] ["kind", "first", "second"] (fnScope sLask) := ⟨rfl, rfl, rfl, by decide +kernel, rfl, by decide +kernel, by decide +kernel⟩
def spLask (S : Addr) : Sp := fun vs H Q _ => ∃ (x y : Addr) (n : Int) (rs rs' : List SR) (ms ms' : List MR) (z : Str), vs = [.int n, .ref x, .ref y] ∧ SysAt S H x rs ms ∧ SysAt S H y rs' ms' ∧ GoodSys rs ms ∧ GoodSys rs' ms' ∧ oddF rs ms rs' ms' = some z ∧
  ∀ H' t, Same H H' → H' t = some (.tup [.str "refused", .bl true, .str z]) → Q (.ref t) H'
/-- the suite, read -/
def tSuiM (K : PySem.W.Frag) (C a : Addr) (cls : Value) (d : Option Addr) (CS : Addr) : TS :=
  tRet (tTup (tCons (tC (.str "refused")) (tCons (tCB (rIsE2 K C a cls d) (tCons (tVar 3) (tCons (tC (.ref CS)) tNil))) (tCons (tXf a cls d C "word" (tVar 3)) tNil))))
theorem c_lask (Z : Zs mg) {S CE CS fE : Addr} (EX : E1K K mg "Mismatch" "word" CE fE) (TU : TellU K mg CE CS)
    (c_common_system : CalX P w K mg base 3 "common_system" (spCsys S CE)) (c_conflicts : CalX P w K mg base 6 "conflicts" (spRefu S CE)) (c_first_conflict : CalX P w K mg base 6 "first_conflict" (spRefu S CE)) (c_false_friend : CalX P w K mg base 6 "false_friend" (spRefu S CE)) (c_conflict_counts : CalX P w K mg base 6 "conflict_counts" (spRefu S CE))
    {f : Addr} {fd : FuncData} (F : Def K mg "_law_asked" sLask f fd) (b : Binds K fd ["kind", "first", "second"] []) : Cal P w K mg base 7 "_law_asked" (spLask S) [] := by
  refine cal0 F b .nil scLask (fun vs H Q E h => ?_) (fun cdv A outer s H vs Q E hr h => ?_)
  · obtain ⟨x, y, n, rs, rs', ms, ms', z, rfl, _⟩ := h
    rfl
  · obtain ⟨x, y, n, rs, rs', ms, ms', z, rfl, hX, hY, hg, hg', ho, k⟩ := h
    refine ⟨_, pss_cons (ps_try_as (i := 3) (c := .ref CE) (ts := fun a cls d => tSuiM K CE a cls d CS) (Wout := fun _ _ _ _ => False)
        rfl rfl scLask.nd rfl rfl ⟨rfl, by decide, .inl EX.gC⟩ takes0
        (fun W pn xe tk _ => pss_cons (ps_if (pt_cmpR op_eq (pv 0) pe_int (nomark _))
        (pss_one (ps_ret (pe_cS c_common_system hr (by omega) tk (by rfl) (pa_cons (pv 1) (pa_cons (pv 2) pa_nil)))))
        (pss_nil))
      (pss_one (ps_if (pt_cmpR op_eq (pv 0) pe_int (nomark _))
        (pss_one (ps_expr (pe_cS c_conflicts hr (by omega) tk (by rfl) (pa_cons (pv 1) (pa_cons (pv 2) pa_nil)))))
        (pss_one (ps_if (pt_cmpR op_eq (pv 0) pe_int (nomark _))
        (pss_one (ps_expr (pe_cS c_first_conflict hr (by omega) tk (by rfl) (pa_cons (pv 1) (pa_cons (pv 2) pa_nil)))))
        (pss_one (ps_if (pt_cmpR op_eq (pv 0) pe_int (nomark _))
        (pss_one (ps_expr (pe_cS c_false_friend hr (by omega) tk (by rfl) (pa_cons (pv 1) (pa_cons (pv 2) pa_nil)))))
        (pss_one (ps_expr (pe_cS c_conflict_counts hr (by omega) tk (by rfl) (pa_cons (pv 1) (pa_cons (pv 2) pa_nil))))))))))))
        (fun a oe cls d pn hz hf => pss_one (ps_ret (pe_tup (pa_cons pe_str (pa_cons (pe_callB (call_isE2 TU.d hz hf) (by rfl) Z.isinstance (by decide +kernel) (pa_cons (pv 3) (pa_cons (pe_gc (by rfl) ⟨_, TU.gE, rfl⟩) pa_nil))) (pa_cons (pe_xf TU.x EX.nF hz hf (pv 3)) pa_nil))))))) (pss_one (ps_ret pe_non)), ?_⟩
    walk_at "go"
    have cat : ∀ (D : Ends), D.rt = Q → ∀ (d : Addr) (H1 : Hp), Same H H1 → H1 d = some (.xd [("word", .str z)]) → wAs K (.ref CE) 3 (fun a cls d => tSuiM K CE a cls d CS) (fun _ _ _ _ => False) D (.ref CE) (some d) [some (.int n), some (.ref x), some (.ref y), none] H1 := fun D hD d H1 s1 hd1 => by
      refine ⟨true, TU.exm, fun _ a ha => ?_, fun q => nomatch q⟩
      unfold tSuiM
      refine R.ret ?_
      refine R.tup ?_
      refine R.cons ?_
      refine R.c ?_
      refine R.cons ?_
      refine R.cb ?_
      refine R.cons ?_
      refine R.var (by rfl) ?_
      walk_at "rd"
      refine ⟨.ref CS, .ref CS, true, d, _, rfl, rfl, rfl, hd1, fun u hu => hu, TU.k1, ?_⟩
      refine R.cons ?_
      refine ⟨_, by rfl, rfl, rfl, d, _, _, rfl, hd1, rfl, ?_⟩
      refine R.nil ?_
      refine ⟨by show 3 ≤ sizeLine; decide, fun t ht => ?_⟩
      show D.rt _ _
      rw [hD]
      exact k _ t (same_new s1 ht) upd_same
    refine it (fun z1 => ?_) (fun z1 => ?_)
    · walk_at "rd"
      unfold tCallS
      walk_at "rd"
      refine ⟨x, y, rs, rs', ms, ms', rfl, hX, hY, hg, hg', .inr ⟨z, ho, fun d H1 s1 hd1 => cat _ rfl d H1 s1 hd1⟩⟩
    · walk_at "rd"
      have psg : ∀ (D : Ends) (Q' : VK), D.rt = Q → spRefu S CE [.ref x, .ref y] H Q' (WE (wAs K (.ref CE) 3 (fun a cls d => tSuiM K CE a cls d CS) (fun _ _ _ _ => False) D) [some (.int n), some (.ref x), some (.ref y), none]) := fun D Q' hD => ⟨x, y, rs, rs', ms, ms', z, rfl, hX, hY, hg, hg', ho, fun d H1 s1 hd1 => cat D hD d H1 s1 hd1⟩
      refine it (fun z1 => ?_) (fun z1 => ?_)
      · walk_at "rd"
        unfold tCallS
        walk_at "rd"
        exact psg _ _ rfl
      · walk_at "rd"
        refine it (fun z1 => ?_) (fun z1 => ?_)
        · walk_at "rd"
          unfold tCallS
          walk_at "rd"
          exact psg _ _ rfl
        · walk_at "rd"
          refine it (fun z1 => ?_) (fun z1 => ?_)
          · walk_at "rd"
            unfold tCallS
            walk_at "rd"
            exact psg _ _ rfl
          · walk_at "rd"
            unfold tCallS
            walk_at "rd"
            exact psg _ _ rfl
end
end KN
end
section
set_option Elab.async false
set_option linter.all false
set_option maxRecDepth 100000
set_option maxHeartbeats 4000000
set_option pp.maxSteps 1500
set_option pp.deepTerms false
local macro_rules | `(tactic| walk_at "ne") => `(tactic| first
  | assumption | (apply Ne.symm; assumption)
  | exact R.ne_new (by assumption) | exact (R.ne_new (by assumption)).symm
  | exact L2.ne_of_none (by assumption) (by assumption) | exact (L2.ne_of_none (by assumption) (by assumption)).symm
  | exact L2.ne_of_none (by assumption) (R.free_new (by assumption)) | exact (L2.ne_of_none (by assumption) (R.free_new (by assumption))).symm)
local macro_rules | `(tactic| walk_at "at") => `(tactic| first
  | assumption | exact L2.upd_same
  | (refine R.sb (H := ?H) (p := ?p) ?e ?n ?h; (case e => assumption); (case n => walk_at "ne"); (case h => walk_at "at"))
  | (refine R.sm (H := ?H) ?e ?h; (case e => assumption); (case h => walk_at "at"))
  | (refine Eq.trans (L2.upd_ne ?_) ?_ <;> first | walk_at "ne" | walk_at "at"))
local macro_rules | `(tactic| walk_at "sqt") => `(tactic| first | assumption | (refine L2.SqT.of ?_; walk_at "at"))
local macro_rules | `(tactic| walk_at "ty") => `(tactic| first | exact R.tyN | exact R.tyB | exact R.tyI | exact R.tyS | (refine R.tyT (xs := ?xs) ?h; case h => walk_at "at") | (refine R.tyL (xs := ?xs) ?h; case h => walk_at "at"))
local macro_rules | `(tactic| walk_at "kit") => `(tactic| first | exact R.kit_NoneType_tuple | exact R.kit_NoneType_list | exact R.kit_NoneType_bool | exact R.kit_NoneType_str | exact R.kit_NoneType_int | exact R.kit_bool_tuple | exact R.kit_bool_list | exact R.kit_bool_bool | exact R.kit_bool_str | exact R.kit_bool_int | exact R.kit_int_tuple | exact R.kit_int_list | exact R.kit_int_bool | exact R.kit_int_str | exact R.kit_int_int | exact R.kit_str_tuple | exact R.kit_str_list | exact R.kit_str_bool | exact R.kit_str_str | exact R.kit_str_int | exact R.kit_tuple_tuple | exact R.kit_tuple_list | exact R.kit_tuple_bool | exact R.kit_tuple_str | exact R.kit_tuple_int | exact R.kit_list_tuple | exact R.kit_list_list | exact R.kit_list_bool | exact R.kit_list_str | exact R.kit_list_int)
local macro_rules | `(tactic| walk_at "sz") => `(tactic| first | assumption | (refine Nat.le_trans ?_ (show 1000 ≤ PySem.sizeLine by decide); omega) | decide)
local macro_rules | `(tactic| walk_at "szl") => `(tactic| first | assumption | exact Nat.le_of_lt (L2.small1000 (by omega)) | decide | decide +kernel)
local macro_rules | `(tactic| walk_at "sys") => `(tactic| first | assumption | exact KN.SysAt.same (by assumption) (by assumption))
local macro_rules | `(tactic| walk_at "dk") => `(tactic| first | exact R.rowsS _ _ | exact R.rowsM _ _)
local macro_rules | `(tactic| walk_at "sqa") => `(tactic| first | assumption | exact R.SeqA.same (by assumption) (by assumption) | exact R.SeqA.new (by assumption) (by assumption) | (exact Or.inl (by walk_at "at")) | (exact Or.inr (by walk_at "at")))
local macro_rules | `(tactic| walk_at "ix") => `(tactic| first | rfl | (exact L2.atI_nat (by assumption)) | assumption)
local macro_rules | `(tactic| walk_at "cond") => `(tactic| first
  | exact Or.inl (by decide) | exact Or.inr (by decide) | exact Or.inl ⟨by omega, by omega⟩ | exact Or.inr ⟨by omega, by omega⟩
  | (constructor <;> omega) | (show _ ≠ _; omega) | decide | omega)
local macro_rules | `(tactic| walk_at "r1") => `(tactic| first
  | ((with_reducible refine R.var (v := ?v) ?h ?q); case h => rfl)
  | with_reducible apply R.cons
  | with_reducible apply R.c
  | with_reducible apply R.nil
  | with_reducible apply R.op
  | with_reducible apply R.gname
  | with_reducible apply R.seq
  | with_reducible apply R.call
  | with_reducible apply R.asg
  | with_reducible apply R.ex
  | with_reducible apply R.tst
  | with_reducible apply R.i0
  | with_reducible apply R.ifs
  | with_reducible apply R.ret
  | with_reducible apply R.retN
  | with_reducible apply R.drop
  | with_reducible apply R.next
  | with_reducible apply R.tb_
  | with_reducible apply R.eqI
  | with_reducible apply R.neI
  | ((with_reducible refine R.ic ?_ ?_); · walk_at "cond")
  | with_reducible apply R.u0
  | with_reducible apply R.un
  | ((with_reducible refine R.eq ?_ ?_); · rfl)
  | ((with_reducible refine R.ne ?_ ?_); · rfl)
  | with_reducible apply R.and_
  | with_reducible apply R.or_
  | with_reducible apply R.not_
  | with_reducible apply R.ife
  | with_reducible apply R.chain
  | with_reducible apply R.cb
  | with_reducible apply R.bm
  | with_reducible apply R.gsub
  | with_reducible apply R.gnil
  | with_reducible apply R.gcons
  | with_reducible apply R.yes
  | with_reducible apply R.int1
  | ((with_reducible refine R.lenL (xs := ?xs) ?h ?q); case h => walk_at "at")
  | ((with_reducible refine R.ixL (xs := ?xs) (v := ?v) ?h ?e ?q); (case h => walk_at "at"); (case e => walk_at "ix"))
  | ((with_reducible refine R.setL (xs := ?xs) (n := ?n) ?h ?e ?q); (case h => walk_at "at"); (case e => rfl))
  | ((with_reducible refine R.append (xs := ?xs) ?h ?e ?q); (case h => walk_at "at"); (case e => walk_at "cond"))
  | with_reducible apply R.is_
  | with_reducible apply R.isnot
  | with_reducible apply R.andV
  | with_reducible apply R.orV
  | with_reducible apply R.notV
  | ((with_reducible refine R.isi (s := ?s) (b := ?b) ?ty ?h ?q); (case ty => walk_at "ty"); (case h => walk_at "kit"))
  | ((with_reducible refine R.addS ?h ?q); (case h => walk_at "sz"))
  | with_reducible apply R.max2
  | with_reducible apply R.min2
  | ((with_reducible refine R.lenStr ?h ?q); (case h => walk_at "szl"))
  | ((with_reducible refine R.ixS (n := ?n) ?h ?e ?q); (case h => walk_at "szl"); (case e => walk_at "ix"))
  | ((with_reducible refine R.tyl (xs := ?xs) ?h ?q); (case h => walk_at "at"))
  | with_reducible apply R.itlist
  | with_reducible apply R.ittup
  | with_reducible apply R.m1
  | with_reducible apply R.m1s
  | with_reducible apply R.leS
  | with_reducible apply R.itstr
  | with_reducible apply R.itstrE
  | with_reducible apply R.lc
  | with_reducible apply R.lc2
  | with_reducible apply R.ckw
  | with_reducible apply R.par
  | with_reducible apply R.parE
  | with_reducible apply R.itrev
  | with_reducible apply R.dsetd
  | with_reducible apply R.dnotin_
  | with_reducible apply R.for_
  | ((with_reducible refine R.all_ (bs := ?bs) ?h ?q); (case h => walk_at "at"))
  | with_reducible apply R.rng1
  | ((with_reducible refine R.rngE ?h ?q); (case h => (constructor <;> omega)))
  | ((with_reducible refine R.lenT (xs := ?xs) ?h ?q); (case h => walk_at "sqt"))
  | ((with_reducible refine R.ixT (xs := ?xs) (v := ?v) ?h ?e ?q); (case h => walk_at "sqt"); (case e => walk_at "ix"))
  | ((refine R.itlE (xs := ?xs) ?h ?q); (case h => walk_at "at"))
  | ((refine R.ittE (xs := ?xs) ?h ?q); (case h => walk_at "at"))
  | ((refine R.gseq (xs := ?xs) ?h ?e ?q); (case h => walk_at "sqa"); (case e => rfl))
  | ((refine R.ixA (xs := ?xs) (v := ?v) ?h ?e ?q); (case h => walk_at "sqa"); (case e => walk_at "ix"))
  | ((refine R.lenA (xs := ?xs) ?h ?q); (case h => walk_at "sqa"))
  | ((with_reducible refine R.gtup (xs := ?xs) ?h ?e ?q); (case h => walk_at "sqt"); (case e => rfl))
  | with_reducible apply R.din_
  | with_reducible apply R.dput_
  | with_reducible apply R.dget2_
  | ((with_reducible refine R.aug_ (x := ?x) ?h ?q); case h => rfl)
  | with_reducible apply R.ipI_
  | with_reducible apply R.rng2
  | ((with_reducible refine R.rngE2 ?h ?q); (case h => (refine ⟨?_, ?_, ?_, ?_⟩ <;> omega)))
  | with_reducible apply R.brk
  | with_reducible apply R.intB
  | with_reducible apply R.meth_
  | ((refine KN.methS (rs := ?rs) (ms := ?ms) ?h (fun _ _ _ _ => rfl) ?q); case h => walk_at "sys")
  | with_reducible apply R.sl_
  | with_reducible apply R.np_
  | with_reducible apply R.pt_
  | with_reducible apply R.ptE
  | with_reducible apply R.dget_
  | with_reducible apply R.revL_
  | ((refine R.dgetS (kvs := ?kvs) (v := ?v) ?h ?e ?q); (case h => walk_at "at"); (case e => walk_at "dk"))
  | with_reducible apply R.sfld
  | with_reducible apply R.fld_
  | with_reducible apply R.dc
  | with_reducible apply R.dget1_
  | with_reducible apply R.itseq
  | with_reducible apply R.itenum
  | with_reducible apply R.itT
  | with_reducible apply R.itF
  | with_reducible apply R.itNT
  | with_reducible apply R.itNF
  | (with_reducible apply R.tup)
  | (with_reducible apply R.lst))
local macro_rules | `(tactic| walk_at "rd") => `(tactic| (repeat (first | walk_at "r1" | (dsimp only [Int.reduceToNat, List.set_cons_succ, List.set_cons_zero, List.length_cons, List.length_nil, List.nil_append, List.cons_append, List.append_nil]))))
local macro_rules | `(tactic| walk_at "go") => `(tactic| (rw [R.start_eq]; dsimp only [R.startE, List.map_nil]; walk_at "rd"))
local macro_rules | `(tactic| walk_at "r1") => `(tactic| first | with_reducible apply R.callN | with_reducible apply R.tr_ | with_reducible apply R.rng3 | with_reducible apply R.bits | with_reducible apply R.dnewT)
-- RTX
namespace KN
open PySem L2 SX R
open C8 (Cal Def cal0 pe_c pe_gc fnScope fnBody pss_cut Met pe_mt pe_mt0)
section
variable {X : Cx} {k j : Nat} {x : Str} {sp : Sp} {p pos : Pos} {e : Expr} {es : List Expr} {t : TA}
theorem pe_cF (c : CalX X.prog X.w X.K X.mg X.base k x sp) (hr : Room j X.A) (hk : k ≤ j) (hg : Gl X x) (ha : PA X (e :: es) t)
    (hdb : (x == ("__debug__" : Str)) = false := by decide) (he : starEach (e :: es) X.env = (false, eval e X.env) :: starEach es X.env := by rfl) (hpl : (backTo pos (starEach es X.env)).any (·.1) = false := by rfl) :
    PE X (.Call (.Name x p) (e :: es) [] pos) (tCall sp [] (fun _ _ _ => False) t) := by
  obtain ⟨f, fd, ps, F, hm, kp, b⟩ := c.ex
  exact pe_call F (hr.mono hk) hg hm kp b .nil passF ha hdb he hpl
end
theorem SysAt.pool {S x p l : Addr} {H H' : Hp} {rs : List SR} {ms : List MR} (h : SysAt S H x rs ms) (P : PoolAt H p l) (e : SameBut p H H') : SysAt S H' x rs ms := by
  obtain ⟨⟨cs, i, d, z, hp, _⟩, _⟩ := id P
  obtain ⟨dx, s, m, v, r, xs, ys, h1, h2, h3, h4, h5, h6, h7⟩ := h
  exact ⟨dx, s, m, v, r, xs, ys, e _ _ (ne_of h1 hp (by intro z; cases z)) h1, e _ _ (ne_of h2 hp (by intro z; cases z)) h2, h3.keep (keep_pool P e), e _ _ (ne_of h4 hp (by intro z; cases z)) h4, h5.keep (keep_pool P e), e _ _ (ne_of h6 hp (by intro z; cases z)) h6, e _ _ (ne_of h7 hp (by intro z; cases z)) h7⟩
section
variable {P : Program} {w : World} {K : PySem.W.Frag} {mg : Str → Option Value} {base : Heap}
abbrev sLaw : Stmt := top 51
theorem scLaw : FnScope ["script", "pool", "first", "second", "one", "other", "word", "due", "kind"] ["script"] (fnScope sLaw) := ⟨rfl, rfl, rfl, by decide +kernel, rfl, by decide +kernel, by decide +kernel⟩
def spTop (K : PySem.W.Frag) : Sp := fun us H Q _ => ∃ (q : Addr) (js : List Int), us = [.ref q] ∧ SqL K H q (js.map V.int) ∧ js.length ≤ 63 ∧ ∀ G, Q (.bl true) G
theorem eqd_tup {H : Hp} {n : Nat} {a b : Addr} {xs ys : List V} (ha : H a = some (.tup xs)) (hb : H b = some (.tup ys)) (hl : xs.length = ys.length) (h1 : xs.length ≤ 1000) (h : ∀ (k : Nat) (u v : V), xs[k]? = some u → ys[k]? = some v → Eqd H n u v) : Eqd H (n + 1) (.ref a) (.ref b) := .inr (.inl ⟨a, b, xs, ys, rfl, rfl, ha, hb, hl, h1, h⟩)
theorem eqd_flat {H : Hp} {n : Nat} {a b : Addr} {xs : List V} (ha : H a = some (.tup xs)) (hb : H b = some (.tup xs)) (h1 : xs.length ≤ 1000) (hs : ∀ v ∈ xs, Scal v) : Eqd H (n + 2) (.ref a) (.ref b) :=
  eqd_tup ha hb rfl h1 fun k u v e f => by rw [e] at f; cases f; exact .inl ⟨rfl, hs u (List.mem_of_getElem? e)⟩
theorem eqd_two {H : Hp} {n : Nat} {a b : Addr} {x y x' y' : V} (ha : H a = some (.tup [x, y])) (hb : H b = some (.tup [x', y'])) (h1 : Eqd H n x x') (h2 : Eqd H n y y') : Eqd H (n + 1) (.ref a) (.ref b) :=
  eqd_tup ha hb rfl (by show 2 ≤ 1000; decide) fun k u v e f => match k, e, f with
    | 0, e, f => by cases e; cases f; exact h1
    | 1, e, f => by cases e; cases f; exact h2
    | k + 2, e, _ => by cases e
theorem eqd_rows {H : Hp} {n : Nat} {a b : Addr} {xs ys : List V} {ds : List (List V)} (ha : H a = some (.tup xs)) (hb : H b = some (.tup ys)) (hx : TupsAt H xs ds) (hy : TupsAt H ys ds) (hs : ∀ d ∈ ds, d.length ≤ 1000 ∧ ∀ v ∈ d, Scal v) (hl : ds.length ≤ 1000) : Eqd H (n + 3) (.ref a) (.ref b) :=
  eqd_tup ha hb (hx.len.trans hy.len.symm) (by rw [hx.len]; exact hl) fun k u v e f => by
    have hk : k < ds.length := by have := (List.getElem?_eq_some_iff.mp e).1; rw [hx.len] at this; exact this
    have hd : ds[k]? = some ds[k] := List.getElem?_eq_getElem hk
    obtain ⟨b1, q1, q2⟩ := hx.get k _ hd
    obtain ⟨b2, q3, q4⟩ := hy.get k _ hd
    rw [q1] at e
    rw [q3] at f
    cases e
    cases f
    have h := hs ds[k] (List.getElem_mem hk)
    exact eqd_flat q2 q4 h.1 h.2
theorem scal_oc (c : Option Int) : Scal (ocnt c) := by
  cases c with
  | none => exact .non
  | some c => exact .int c
theorem sc_nil : ∀ v ∈ ([] : List V), Scal v := fun _ h => nomatch h
theorem sc_cons {v : V} {l : List V} (h : Scal v) (t : ∀ v ∈ l, Scal v) : ∀ u ∈ v :: l, Scal u := fun u hu => by
  rcases List.mem_cons.mp hu with rfl | hu
  · exact h
  · exact t u hu
theorem sc_sr (rs : List SR) : ∀ d ∈ rs.map srV, d.length ≤ 1000 ∧ ∀ v ∈ d, Scal v := fun d hd => by
  obtain ⟨r, _, rfl⟩ := List.mem_map.mp hd
  exact ⟨by show 2 ≤ 1000; decide, sc_cons (.str _) (sc_cons (.int _) sc_nil)⟩
theorem sc_mr (ms : List MR) : ∀ d ∈ ms.map mrV, d.length ≤ 1000 ∧ ∀ v ∈ d, Scal v := fun d hd => by
  obtain ⟨r, _, rfl⟩ := List.mem_map.mp hd
  exact ⟨by show 5 ≤ 1000; decide, sc_cons (.str _) (sc_cons (.int _) (sc_cons (scal_oc _) (sc_cons (.bl _) (sc_cons (.int _) sc_nil))))⟩
theorem sc_cm (ms : List CM) : ∀ d ∈ ms.map cmV, d.length ≤ 1000 ∧ ∀ v ∈ d, Scal v := fun d hd => by
  obtain ⟨r, _, rfl⟩ := List.mem_map.mp hd
  exact ⟨by show 6 ≤ 1000; decide, sc_cons (.str _) (sc_cons (.int _) (sc_cons (.int _) (sc_cons (scal_oc _) (sc_cons (.bl _) (sc_cons (.int _) sc_nil)))))⟩
theorem ok_law (Z : Zs mg) {S CE : Addr} (TS : SysK K S)
    (c_pool : Cal P w K mg base 1 "_law_pool" (spPool K) []) (c_take : Cal P w K mg base 2 "_law_take" spTake []) (c_rows : Cal P w K mg base 6 "_law_rows" (spDrawn 30 1000 99) []) (c_varied : Cal P w K mg base 4 "_law_varied" spLvar []) (c_made : Cal P w K mg base 6 "_law_made" (spMade S) [])
    (c_odd : Cal P w K mg base 2 "_law_odd" spLodd []) (c_mismatch : Cal P w K mg base 2 "mismatch" (spMism S) []) (c_common_system : CalX P w K mg base 3 "common_system" (spCsys S CE)) (c_asked : Cal P w K mg base 7 "_law_asked" (spLask S) []) (c_common : Cal P w K mg base 2 "_law_common" spLcom []) (c_same : Cal P w K mg base 6 "_law_same" (spSame 4) [])
    {f : Addr} {fd : FuncData} (F : Fun K "law" "law" sLaw f fd) : FnOk P w K mg base C8.CX0 12 f fd ["script"] (spTop K) := by
  refine F.ok scLaw (fun vs H Q E h => ?_) (fun cdv A outer s H vs Q E hr h => ?_)
  · obtain ⟨a, ns, rfl, _⟩ := h
    rfl
  · obtain ⟨a, ns, rfl, hS, hlen, k⟩ := h
    refine ⟨_, pss_cons (ps_set (i := 1) scLaw.nd rfl (Or.inl rfl) (pe_c c_pool hr (by omega) (by rfl) (pa_cons (pv 0) pa_nil)))
      (pss_cons (ps_set (i := 2) scLaw.nd rfl (Or.inl rfl) (pe_c c_rows hr (by omega) (by rfl) (pa_cons (pv 1) pa_nil)))
      (pss_cons (ps_set (i := 3) scLaw.nd rfl (Or.inl rfl) (pe_c c_varied hr (by omega) (by rfl) (pa_cons (pv 1) (pa_cons (pv 2) (pa_cons (pe_cmpR op_eq (pe_c c_take hr (by omega) (by rfl) (pa_cons (pv 1) (pa_cons pe_int pa_nil))) pe_int (nomark _)) pa_nil)))))
      (pss_cut (ps_if (pt_cmpR op_eq (pe_c c_take hr (by omega) (by rfl) (pa_cons (pv 1) (pa_cons pe_int pa_nil))) pe_int (nomark _))
        (pss_one (ps_set (i := 3) scLaw.nd rfl (Or.inl rfl) (pe_c c_rows hr (by omega) (by rfl) (pa_cons (pv 1) pa_nil))))
        (pss_nil))
      (pss_cons (ps_set (i := 4) scLaw.nd rfl (Or.inr rfl) (pe_c c_made hr (by omega) (by rfl) (pa_cons (pv 1) (pa_cons (pv 2) pa_nil))))
      (pss_cons (ps_set (i := 5) scLaw.nd rfl (Or.inr rfl) (pe_c c_made hr (by omega) (by rfl) (pa_cons (pv 1) (pa_cons (pv 3) pa_nil))))
      (pss_cons (ps_set (i := 6) scLaw.nd rfl (Or.inr rfl) (pe_c c_odd hr (by omega) (by rfl) (pa_cons (pv 2) (pa_cons (pv 3) pa_nil))))
      (pss_cons (ps_if (pt_not (pt_val (pe_c c_same hr (by omega) (by rfl) (pa_cons (pe_c c_mismatch hr (by omega) (by rfl) (pa_cons (pv 4) (pa_cons (pv 5) pa_nil))) (pa_cons (pv 6) pa_nil)))))
        (pss_one (ps_ret pe_bl))
        (pss_nil))
      (pss_cons (ps_if (pt_cmpR oIsNot (pv 6) pe_non (nomark _))
        (pss_one (ps_ret (pe_callB (kAll K) (by rfl) Z.all (by decide +kernel) (pa_cons (pe_lc (own := [("kind", 8)]) (g := gName 8) (tt := tYes) rfl scLaw.nd (pi_range1 (by rfl) Z.range (pa_cons pe_int pa_nil)) (blkOk_by (own := [("kind", 8)]) (N := ["script", "pool", "first", "second", "one", "other", "word", "due", "kind"]) (sc := fnScope sLaw) (by decide +kernel)) (fun _ _ _ _ _ => (pg_name (i := 8) scLaw.nd rfl (Or.inl rfl))) (fun _ _ _ _ _ => pts_nil) (fun _ _ _ _ _ => pe_c c_same hr (by omega) (by rfl) (pa_cons (pe_c c_asked hr (by omega) (by rfl) (pa_cons (pv 8) (pa_cons (pv 4) (pa_cons (pv 5) pa_nil)))) (pa_cons (pe_tup (pa_cons pe_str (pa_cons pe_bl (pa_cons (pv 6) pa_nil)))) pa_nil)))) pa_nil))))
        (pss_nil))
      (pss_cons (ps_set (i := 7) scLaw.nd rfl (Or.inl rfl) (pe_c c_common hr (by omega) (by rfl) (pa_cons (pv 2) (pa_cons (pv 3) pa_nil))))
      (pss_cons (ps_if (pt_not (pt_val (pe_c c_same hr (by omega) (by rfl) (pa_cons (pe_cF c_common_system hr (by omega) (by rfl) (pa_cons (pv 4) (pa_cons (pv 5) pa_nil))) (pa_cons (pe_tup (pa_cons (pe_callTy (kTuple K) (by rfl) Z.tuple (by decide +kernel) (pa_cons (pe_dget (hu_of hr) (pv 7) pe_str (fun _ _ => rfl)) pa_nil)) (pa_cons (pe_callTy (kTuple K) (by rfl) Z.tuple (by decide +kernel) (pa_cons (pe_dget (hu_of hr) (pv 7) pe_str (fun _ _ => rfl)) pa_nil)) pa_nil))) pa_nil)))))
        (pss_one (ps_ret pe_bl))
        (pss_nil))
      (pss_one (ps_ret (pe_c c_same hr (by omega) (by rfl) (pa_cons (pe_tup (pa_cons (kFld K (pv 4)) (pa_cons (kFld K (pv 4)) pa_nil))) (pa_cons (pe_tup (pa_cons (pe_callTy (kTuple K) (by rfl) Z.tuple (by decide +kernel) (pa_cons (pe_dget (hu_of hr) (pv 2) pe_str (fun _ _ => rfl)) pa_nil)) (pa_cons (pe_callTy (kTuple K) (by rfl) Z.tuple (by decide +kernel) (pa_cons (pe_dget (hu_of hr) (pv 2) pe_str (fun _ _ => rfl)) pa_nil)) pa_nil))) pa_nil))))))))))))))), ?_⟩
    walk_at "go"
    refine ⟨a, ns, rfl, hS, hlen, fun H1 p l s1 np nl P1 => ?_⟩
    refine R.gname ?_
    dsimp only [List.set_cons_succ, List.set_cons_zero, List.map_nil]
    walk_at "rd"
    obtain ⟨⟨cs, i0, d0, s0, hp, hl, hpos⟩, hne⟩ := id P1
    refine ⟨p, l, cs, rfl, P1, hl, fun H3 r rs ms e3 P3 R3 dr => ?_⟩
    have hg := dr.g
    walk_at "rd"
    refine r_take' P3 (by decide) (by decide) (fun H4 n4 e4 P4 l4 u4 => ?_)
    have R4 := R3.pool P3 e4
    walk_at "rd"
    refine ⟨p, l, r, rs, ms, _, rfl, P4, R4, dr, fun H5 r2 rs2 ms2 e5 P5 R5' hg5 bm5 bs5 _ => ?_⟩
    have R5 := R4.pool P4 e5
    walk_at "rd"
    refine R.cut (fun σ' H' => ∃ (r2 : Addr) (rs2 : List SR) (ms2 : List MR), σ' = [some (.ref a), some (.ref p), some (.ref r), some (.ref r2), none, none, none, none, none] ∧ PoolAt H' p l ∧ RowsAt H' r rs ms ∧ RowsAt H' r2 rs2 ms2 ∧ GoodSys rs2 ms2) ?_ ?_
    · walk_at "rd"
      refine r_take' P5 (by decide) (by decide) (fun H6 n6 e6 P6 l6 u6 => ?_)
      have R6 := R5.pool P5 e6
      have R6' := R5'.pool P5 e6
      walk_at "rd"
      refine it (fun z1 => ?_) (fun z1 => ?_)
      · walk_at "rd"
        obtain ⟨⟨cs6, i6, d6, s6, hp6, hl6, hpos6⟩, hne6⟩ := id P6
        refine ⟨p, l, cs6, rfl, P6, hl6, fun H7 r7 rs7 ms7 e7 P7 R7 dr7 => ?_⟩
        walk_at "rd"
        exact ⟨_, _, _, rfl, P7, R6.pool P6 e7, R7, dr7.g⟩
      · walk_at "rd"
        exact ⟨_, _, _, rfl, P6, R6, R6', hg5⟩
    · clear R5' hg5 bm5 bs5
      rintro σ6 H6 ⟨r2, rs2, ms2, rfl, P6, R6, R6', hg2⟩
      walk_at "rd"
      refine ⟨p, l, r, rs, ms, rfl, P6, R6, hg, fun H7 x e7 P7 X7 => ?_⟩
      have R7 := R6.pool P6 e7
      have R7' := R6'.pool P6 e7
      walk_at "rd"
      refine ⟨p, l, r2, rs2, ms2, rfl, P7, R7', hg2, fun H8 y e8 P8 Y8 => ?_⟩
      have X8 := X7.pool P7 e8
      have R8 := R7.pool P7 e8
      have R8' := R7'.pool P7 e8
      walk_at "rd"
      refine ⟨r, r2, rs, rs2, ms, ms2, rfl, R8, R8', hg, hg2, fun H9 s9 => ?_⟩
      have X9 := X8.same s9
      have Y9 := Y8.same s9
      have R9 := R8.same s9
      have R9' := R8'.same s9
      walk_at "rd"
      refine ⟨x, y, rs, rs2, ms, ms2, rfl, X9, Y9, hg, hg2, fun H10 s10 => ?_⟩
      have X10 := X9.same s10
      have Y10 := Y9.same s10
      have R10 := R9.same s10
      have R10' := R9'.same s10
      cases ho : oddF rs ms rs2 ms2 with
      | none =>
        walk_at "rd"
        refine ⟨_, _, rfl, .inl ⟨rfl, .non⟩, fun H11 s11 => ?_⟩
        have X11 := X10.same s11
        have Y11 := Y10.same s11
        have R11 := R10.same s11
        have R11' := R10'.same s11
        refine ⟨true, rfl, ?_⟩
        walk_at "rd"
        refine inoY rfl ?_
        walk_at "rd"
        refine ⟨r, r2, rs, rs2, ms, ms2, rfl, R11, R11', hg, hg2, fun H12 tD sA mA xs ys s12 hD hs hts hm htm => ?_⟩
        have X12 := X11.same s12
        have Y12 := Y11.same s12
        walk_at "rd"
        refine ⟨x, y, rs, rs2, ms, ms2, rfl, X12, Y12, hg, hg2, .inl ⟨ho, fun H13 t t1 t2 xs1 xs2 s13 h t1h T1 t2h T2 => ?_⟩⟩
        have hD13 := s13 _ _ hD
        have hs13 := s13 _ _ hs
        have hm13 := s13 _ _ hm
        have hts13 := hts.keep fun a d q => s13 _ _ q
        have htm13 := htm.keep fun a d q => s13 _ _ q
        walk_at "rd"
        refine R.tupL hs13 fun u1 hu1 => R.gen hu1 fun H14 s14 h14 => ?_
        have hD14 := s14 _ _ hD13
        have hm14 := s14 _ _ hm13
        walk_at "rd"
        refine R.tupL hm14 fun u2 hu2 => R.gen hu2 fun H15 s15 h15 => ?_
        have h14' := s15 _ _ h14
        walk_at "rd"
        refine ⟨by decide, fun t3 ht3 => R.gen ht3 fun H16 s16 h16 => ?_⟩
        have k13 : Same H13 H16 := (s14.trans s15).trans s16
        have cl1 : (comS rs rs2).length ≤ 1000 := Nat.le_trans (List.length_filter_le _ _) (Nat.le_trans hg.sl (by decide))
        have cl2 : (comL ms ms2).length ≤ 1000 := Nat.le_trans (List.length_filterMap_le _ _) (Nat.le_trans hg.ml (by decide))
        have X16 := (X12.same s13).same k13
        have R16 := ((R11.same s12).same s13).same k13
        walk_at "rd"
        refine ⟨_, _, rfl, eqd_two (n := 3) (k13 _ _ h) h16 (eqd_rows (n := 0) (k13 _ _ t1h) (s16 _ _ h14') (T1.keep fun a d q => k13 _ _ q) (hts13.keep fun a d q => k13 _ _ q) (sc_sr _) (by rw [List.length_map]; exact cl1)) (eqd_rows (n := 0) (k13 _ _ t2h) (s16 _ _ h15) (T2.keep fun a d q => k13 _ _ q) (htm13.keep fun a d q => k13 _ _ q) (sc_cm _) (by rw [List.length_map]; exact cl2)), fun H17 s17 => ?_⟩
        have X17 := X16.same s17
        have R17 := R16.same s17
        obtain ⟨dx, sB, mB, vv, rr, xB, yB, b1, b2, b3, b4, b5, _⟩ := id X17
        obtain ⟨sC, mC, xC, yC, c1, c2, c3, c4, c5⟩ := id R17
        refine ⟨true, rfl, ?_⟩
        walk_at "rd"
        refine R.fldE b1 TS.cl TS.nS rfl ?_
        walk_at "rd"
        refine R.fldE b1 TS.cl TS.nM rfl ?_
        walk_at "rd"
        refine ⟨by decide, fun t4 ht4 => R.gen ht4 fun H18 s18 h18 => ?_⟩
        have c1' := s18 _ _ c1
        have c2' := s18 _ _ c2
        have c4' := s18 _ _ c4
        walk_at "rd"
        refine R.tupL c2' fun u3 hu3 => R.gen hu3 fun H19 s19 h19 => ?_
        have c1'' := s19 _ _ c1'
        have c4'' := s19 _ _ c4'
        walk_at "rd"
        refine R.tupL c4'' fun u4 hu4 => R.gen hu4 fun H20 s20 h20 => ?_
        have h19' := s20 _ _ h19
        walk_at "rd"
        refine ⟨by decide, fun t5 ht5 => R.gen ht5 fun H21 s21 h21 => ?_⟩
        have k18 : Same H18 H21 := (s19.trans s20).trans s21
        have k17 : Same H17 H21 := s18.trans k18
        walk_at "rd"
        exact ⟨_, _, rfl, eqd_two (n := 3) (k18 _ _ h18) h21 (eqd_rows (n := 0) (k17 _ _ b2) (s21 _ _ h19') (b3.keep fun a d q => k17 _ _ q) (c3.keep fun a d q => k17 _ _ q) (sc_sr _) (by rw [List.length_map]; exact Nat.le_trans hg.sl (by decide))) (eqd_rows (n := 0) (k17 _ _ b4) (s21 _ _ h20) (b5.keep fun a d q => k17 _ _ q) (c5.keep fun a d q => k17 _ _ q) (sc_mr _) (by rw [List.length_map]; exact Nat.le_trans hg.ml (by decide))), fun H22 _ => k H22⟩
      | some z =>
        walk_at "rd"
        refine ⟨_, _, rfl, .inl ⟨rfl, .str z⟩, fun H11 s11 => ?_⟩
        have X11 := X10.same s11
        have Y11 := Y10.same s11
        refine ⟨true, rfl, ?_⟩
        walk_at "rd"
        refine inoN (fun z => nomatch z) ?_
        walk_at "rd"
        intro D hD
        refine lc_range (lo := 0) (n := 5) (fun i H' => Same H11 H' ∧ H' D = some (.lst ((List.replicate i true).map V.bl))) ⟨same_new (Same.refl _) hD, upd_same⟩ ?_ ?_
        · rintro i H12 hi ⟨s12, h12⟩
          refine R.gname ⟨rfl, ?_⟩
          rw [Int.zero_add]
          walk_at "rd"
          refine ⟨x, y, _, rs, rs2, ms, ms2, z, rfl, X11.same s12, Y11.same s12, hg, hg2, ho, fun H13 t s13 h13 => ?_⟩
          walk_at "rd"
          refine ⟨by decide, fun t2 ht2 => R.gen ht2 fun H14 s14 h14 => ?_⟩
          walk_at "rd"
          refine ⟨_, _, rfl, eqd_flat (n := 2) (s14 _ _ h13) h14 (by show 3 ≤ 1000; decide) (sc_cons (.str _) (sc_cons (.bl _) (sc_cons (.str _) sc_nil))), fun H15 s15 => ?_⟩
          have s25 := (s13.trans s14).trans s15
          refine ⟨_, s25 _ _ h12, small1000 (by rw [List.length_map, List.length_replicate]; omega), same_put (s12.trans s25) hD, ?_⟩
          rw [upd_same, List.replicate_succ', List.map_append]
          rfl
        · rintro H12 ⟨s12, h12⟩
          walk_at "rd"
          rw [all_rep]
          exact k _
end
end KN
end
section
set_option Elab.async false
set_option linter.all false
set_option maxRecDepth 100000
set_option maxHeartbeats 4000000
set_option pp.maxSteps 1500
set_option pp.deepTerms false
local macro_rules | `(tactic| walk_at "ne") => `(tactic| first
  | assumption | (apply Ne.symm; assumption)
  | exact R.ne_new (by assumption) | exact (R.ne_new (by assumption)).symm
  | exact L2.ne_of_none (by assumption) (by assumption) | exact (L2.ne_of_none (by assumption) (by assumption)).symm
  | exact L2.ne_of_none (by assumption) (R.free_new (by assumption)) | exact (L2.ne_of_none (by assumption) (R.free_new (by assumption))).symm)
local macro_rules | `(tactic| walk_at "at") => `(tactic| first
  | assumption | exact L2.upd_same
  | (refine R.sb (H := ?H) (p := ?p) ?e ?n ?h; (case e => assumption); (case n => walk_at "ne"); (case h => walk_at "at"))
  | (refine R.sm (H := ?H) ?e ?h; (case e => assumption); (case h => walk_at "at"))
  | (refine Eq.trans (L2.upd_ne ?_) ?_ <;> first | walk_at "ne" | walk_at "at"))
local macro_rules | `(tactic| walk_at "sqt") => `(tactic| first | assumption | (refine L2.SqT.of ?_; walk_at "at"))
local macro_rules | `(tactic| walk_at "ty") => `(tactic| first | exact R.tyN | exact R.tyB | exact R.tyI | exact R.tyS | (refine R.tyT (xs := ?xs) ?h; case h => walk_at "at") | (refine R.tyL (xs := ?xs) ?h; case h => walk_at "at"))
local macro_rules | `(tactic| walk_at "kit") => `(tactic| first | exact R.kit_NoneType_tuple | exact R.kit_NoneType_list | exact R.kit_NoneType_bool | exact R.kit_NoneType_str | exact R.kit_NoneType_int | exact R.kit_bool_tuple | exact R.kit_bool_list | exact R.kit_bool_bool | exact R.kit_bool_str | exact R.kit_bool_int | exact R.kit_int_tuple | exact R.kit_int_list | exact R.kit_int_bool | exact R.kit_int_str | exact R.kit_int_int | exact R.kit_str_tuple | exact R.kit_str_list | exact R.kit_str_bool | exact R.kit_str_str | exact R.kit_str_int | exact R.kit_tuple_tuple | exact R.kit_tuple_list | exact R.kit_tuple_bool | exact R.kit_tuple_str | exact R.kit_tuple_int | exact R.kit_list_tuple | exact R.kit_list_list | exact R.kit_list_bool | exact R.kit_list_str | exact R.kit_list_int)
local macro_rules | `(tactic| walk_at "sz") => `(tactic| first | assumption | (refine Nat.le_trans ?_ (show 1000 ≤ PySem.sizeLine by decide); omega) | decide)
local macro_rules | `(tactic| walk_at "szl") => `(tactic| first | assumption | exact Nat.le_of_lt (L2.small1000 (by omega)) | decide | decide +kernel)
local macro_rules | `(tactic| walk_at "sys") => `(tactic| first | assumption | exact KN.SysAt.same (by assumption) (by assumption))
local macro_rules | `(tactic| walk_at "dk") => `(tactic| first | exact R.rowsS _ _ | exact R.rowsM _ _)
local macro_rules | `(tactic| walk_at "sqa") => `(tactic| first | assumption | exact R.SeqA.same (by assumption) (by assumption) | exact R.SeqA.new (by assumption) (by assumption) | (exact Or.inl (by walk_at "at")) | (exact Or.inr (by walk_at "at")))
local macro_rules | `(tactic| walk_at "ix") => `(tactic| first | rfl | (exact L2.atI_nat (by assumption)) | assumption)
local macro_rules | `(tactic| walk_at "cond") => `(tactic| first
  | exact Or.inl (by decide) | exact Or.inr (by decide) | exact Or.inl ⟨by omega, by omega⟩ | exact Or.inr ⟨by omega, by omega⟩
  | (constructor <;> omega) | (show _ ≠ _; omega) | decide | omega)
local macro_rules | `(tactic| walk_at "r1") => `(tactic| first
  | ((with_reducible refine R.var (v := ?v) ?h ?q); case h => rfl)
  | with_reducible apply R.cons
  | with_reducible apply R.c
  | with_reducible apply R.nil
  | with_reducible apply R.op
  | with_reducible apply R.gname
  | with_reducible apply R.seq
  | with_reducible apply R.call
  | with_reducible apply R.asg
  | with_reducible apply R.ex
  | with_reducible apply R.tst
  | with_reducible apply R.i0
  | with_reducible apply R.ifs
  | with_reducible apply R.ret
  | with_reducible apply R.retN
  | with_reducible apply R.drop
  | with_reducible apply R.next
  | with_reducible apply R.tb_
  | with_reducible apply R.eqI
  | with_reducible apply R.neI
  | ((with_reducible refine R.ic ?_ ?_); · walk_at "cond")
  | with_reducible apply R.u0
  | with_reducible apply R.un
  | ((with_reducible refine R.eq ?_ ?_); · rfl)
  | ((with_reducible refine R.ne ?_ ?_); · rfl)
  | with_reducible apply R.and_
  | with_reducible apply R.or_
  | with_reducible apply R.not_
  | with_reducible apply R.ife
  | with_reducible apply R.chain
  | with_reducible apply R.cb
  | with_reducible apply R.bm
  | with_reducible apply R.gsub
  | with_reducible apply R.gnil
  | with_reducible apply R.gcons
  | with_reducible apply R.yes
  | with_reducible apply R.int1
  | ((with_reducible refine R.lenL (xs := ?xs) ?h ?q); case h => walk_at "at")
  | ((with_reducible refine R.ixL (xs := ?xs) (v := ?v) ?h ?e ?q); (case h => walk_at "at"); (case e => walk_at "ix"))
  | ((with_reducible refine R.setL (xs := ?xs) (n := ?n) ?h ?e ?q); (case h => walk_at "at"); (case e => rfl))
  | ((with_reducible refine R.append (xs := ?xs) ?h ?e ?q); (case h => walk_at "at"); (case e => walk_at "cond"))
  | with_reducible apply R.is_
  | with_reducible apply R.isnot
  | with_reducible apply R.andV
  | with_reducible apply R.orV
  | with_reducible apply R.notV
  | ((with_reducible refine R.isi (s := ?s) (b := ?b) ?ty ?h ?q); (case ty => walk_at "ty"); (case h => walk_at "kit"))
  | ((with_reducible refine R.addS ?h ?q); (case h => walk_at "sz"))
  | with_reducible apply R.max2
  | with_reducible apply R.min2
  | ((with_reducible refine R.lenStr ?h ?q); (case h => walk_at "szl"))
  | ((with_reducible refine R.ixS (n := ?n) ?h ?e ?q); (case h => walk_at "szl"); (case e => walk_at "ix"))
  | ((with_reducible refine R.tyl (xs := ?xs) ?h ?q); (case h => walk_at "at"))
  | with_reducible apply R.itlist
  | with_reducible apply R.ittup
  | with_reducible apply R.m1
  | with_reducible apply R.m1s
  | with_reducible apply R.leS
  | with_reducible apply R.itstr
  | with_reducible apply R.itstrE
  | with_reducible apply R.lc
  | with_reducible apply R.lc2
  | with_reducible apply R.ckw
  | with_reducible apply R.par
  | with_reducible apply R.parE
  | with_reducible apply R.itrev
  | with_reducible apply R.dsetd
  | with_reducible apply R.dnotin_
  | with_reducible apply R.for_
  | ((with_reducible refine R.all_ (bs := ?bs) ?h ?q); (case h => walk_at "at"))
  | with_reducible apply R.rng1
  | ((with_reducible refine R.rngE ?h ?q); (case h => (constructor <;> omega)))
  | ((with_reducible refine R.lenT (xs := ?xs) ?h ?q); (case h => walk_at "sqt"))
  | ((with_reducible refine R.ixT (xs := ?xs) (v := ?v) ?h ?e ?q); (case h => walk_at "sqt"); (case e => walk_at "ix"))
  | ((refine R.itlE (xs := ?xs) ?h ?q); (case h => walk_at "at"))
  | ((refine R.ittE (xs := ?xs) ?h ?q); (case h => walk_at "at"))
  | ((refine R.gseq (xs := ?xs) ?h ?e ?q); (case h => walk_at "sqa"); (case e => rfl))
  | ((refine R.ixA (xs := ?xs) (v := ?v) ?h ?e ?q); (case h => walk_at "sqa"); (case e => walk_at "ix"))
  | ((refine R.lenA (xs := ?xs) ?h ?q); (case h => walk_at "sqa"))
  | ((with_reducible refine R.gtup (xs := ?xs) ?h ?e ?q); (case h => walk_at "sqt"); (case e => rfl))
  | with_reducible apply R.din_
  | with_reducible apply R.dput_
  | with_reducible apply R.dget2_
  | ((with_reducible refine R.aug_ (x := ?x) ?h ?q); case h => rfl)
  | with_reducible apply R.ipI_
  | with_reducible apply R.rng2
  | ((with_reducible refine R.rngE2 ?h ?q); (case h => (refine ⟨?_, ?_, ?_, ?_⟩ <;> omega)))
  | with_reducible apply R.brk
  | with_reducible apply R.intB
  | with_reducible apply R.meth_
  | ((refine KN.methS (rs := ?rs) (ms := ?ms) ?h (fun _ _ _ _ => rfl) ?q); case h => walk_at "sys")
  | with_reducible apply R.sl_
  | with_reducible apply R.np_
  | with_reducible apply R.pt_
  | with_reducible apply R.ptE
  | with_reducible apply R.dget_
  | with_reducible apply R.revL_
  | ((refine R.dgetS (kvs := ?kvs) (v := ?v) ?h ?e ?q); (case h => walk_at "at"); (case e => walk_at "dk"))
  | with_reducible apply R.sfld
  | with_reducible apply R.fld_
  | with_reducible apply R.dc
  | with_reducible apply R.dget1_
  | with_reducible apply R.itseq
  | with_reducible apply R.itenum
  | with_reducible apply R.itT
  | with_reducible apply R.itF
  | with_reducible apply R.itNT
  | with_reducible apply R.itNF
  | (with_reducible apply R.tup)
  | (with_reducible apply R.lst))
local macro_rules | `(tactic| walk_at "rd") => `(tactic| (repeat (first | walk_at "r1" | (dsimp only [Int.reduceToNat, List.set_cons_succ, List.set_cons_zero, List.length_cons, List.length_nil, List.nil_append, List.cons_append, List.append_nil]))))
local macro_rules | `(tactic| walk_at "go") => `(tactic| (rw [R.start_eq]; dsimp only [R.startE, List.map_nil]; walk_at "rd"))
namespace KN
open PySem L2 SX R
open C8 (Cal Def fnScope fnBody fnArgs)
theorem def_of {K : PySem.W.Frag} {h : Heap} {mg : Str → Option Value} {x : Str} {st : Stmt} {f : Addr} {od an : Option Addr} {sl : Array (Option Value)} {oc kV dc pm cd ct : Value} (X : K.In h) (G : h.Ns mainGlobals mg) (a : PySem.W.nsIn K mainGlobals x = some (some (.ref f)))
    (l : K.lookup f = some ⟨oc, od, .func (PySem.W.fnOf x x (fnArgs st) (fnBody st) (fnScope st) .none kV dc pm an cd ct), sl⟩) (c : PySem.W.codeIn K cd x = true) (k : PySem.W.keepIn K (.ref f) = true) : Def K mg x st f (PySem.W.fnOf x x (fnArgs st) (fnBody st) (fnScope st) .none kV dc pm an cd ct) :=
  ⟨⟨oc, od, .none, kV, dc, pm, an, cd, ct, sl, rfl, l, c⟩, PySem.W.mg_of X G a, k⟩
theorem calAt_of {P : Program} {w : World} {K : PySem.W.Frag} {mg : Str → Option Value} {base : Heap} {k : Nat} {x : Str} {f : Addr} {sp : Sp} (c : Cal P w K mg base k x sp []) (hm : mg x = some (.ref f)) : C8.CalAt P w K mg base k f sp := by
  obtain ⟨f', fd, ps, ds, q1, q2, q3, q4, q5⟩ := c.ex
  have e := q2.symm.trans hm
  cases e
  cases q5
  exact ⟨fd, ps, q1, q3, q4⟩
theorem kit_ref {K : PySem.W.Frag} {t : Value} {E : Addr} (h2 : PySem.W.isClsIn K E = true) (h3 : PySem.W.typeIn K (.ref E) = some (.type "type")) (h4 : PySem.W.subIn K t (.ref E) = some true) : PySem.W.kitCls K t (.ref E) = some true := by
  have q : (PySem.W.clsIn K E).isSome = true := h2
  unfold PySem.W.kitCls
  dsimp only
  rw [q, h3]
  exact h4
theorem exm_ref {K : PySem.W.Frag} {t : Value} {E : Addr} (h1 : PySem.W.subIn K (.ref E) (.type "BaseException") = some true) (h : PySem.W.kitCls K t (.ref E) = some true) : PySem.W.exmOne K t (.ref E) = some true := by
  unfold PySem.W.exmOne
  rw [h1]
  exact h
theorem kit_one {K : PySem.W.Frag} {t c : Value} (h : PySem.W.kitCls K t c = some true) : PySem.W.kitOne K t c = some true := by
  unfold PySem.W.kitOne
  split
  · rfl
  · exact h
theorem all_mk {P : Program} {w : World} {K : PySem.W.Frag} {h : Heap} {mg : Str → Option Value} {fa S CP C : Addr} (X : K.In h) (G : h.Ns mainGlobals mg) (hfa : mg "law" = some (.ref fa))
    {f0 : Addr} {od0 an0 : Option Addr} {sl0 : Array (Option Value)} {oc0 kV0 dc0 pm0 cd0 ct0 : Value}
    {f1 : Addr} {od1 an1 : Option Addr} {sl1 : Array (Option Value)} {oc1 kV1 dc1 pm1 cd1 ct1 : Value}
    {f2 : Addr} {od2 an2 : Option Addr} {sl2 : Array (Option Value)} {oc2 kV2 dc2 pm2 cd2 ct2 : Value}
    {f3 : Addr} {od3 an3 : Option Addr} {sl3 : Array (Option Value)} {oc3 kV3 dc3 pm3 cd3 ct3 : Value}
    {f4 : Addr} {od4 an4 : Option Addr} {sl4 : Array (Option Value)} {oc4 kV4 dc4 pm4 cd4 ct4 : Value}
    {f5 : Addr} {od5 an5 : Option Addr} {sl5 : Array (Option Value)} {oc5 kV5 dc5 pm5 cd5 ct5 : Value}
    {f6 : Addr} {od6 an6 : Option Addr} {sl6 : Array (Option Value)} {oc6 kV6 dc6 pm6 cd6 ct6 : Value}
    {f7 : Addr} {od7 an7 : Option Addr} {sl7 : Array (Option Value)} {oc7 kV7 dc7 pm7 cd7 ct7 : Value}
    {f8 : Addr} {od8 an8 : Option Addr} {sl8 : Array (Option Value)} {oc8 kV8 dc8 pm8 cd8 ct8 : Value}
    {f9 : Addr} {od9 an9 : Option Addr} {sl9 : Array (Option Value)} {oc9 kV9 dc9 pm9 cd9 ct9 : Value}
    {f10 : Addr} {od10 an10 : Option Addr} {sl10 : Array (Option Value)} {oc10 kV10 dc10 pm10 cd10 ct10 : Value}
    {f11 : Addr} {od11 an11 : Option Addr} {sl11 : Array (Option Value)} {oc11 kV11 dc11 pm11 cd11 ct11 : Value}
    {f12 : Addr} {od12 an12 : Option Addr} {sl12 : Array (Option Value)} {oc12 kV12 dc12 pm12 cd12 ct12 : Value}
    {f13 : Addr} {od13 an13 : Option Addr} {sl13 : Array (Option Value)} {oc13 kV13 dc13 pm13 cd13 ct13 : Value}
    {f14 : Addr} {od14 an14 : Option Addr} {sl14 : Array (Option Value)} {oc14 kV14 dc14 pm14 cd14 ct14 : Value}
    {f15 : Addr} {od15 an15 : Option Addr} {sl15 : Array (Option Value)} {oc15 kV15 dc15 pm15 cd15 ct15 : Value}
    {f16 : Addr} {od16 an16 : Option Addr} {sl16 : Array (Option Value)} {oc16 kV16 dc16 pm16 cd16 ct16 : Value}
    {f17 : Addr} {od17 an17 : Option Addr} {sl17 : Array (Option Value)} {oc17 kV17 dc17 pm17 cd17 ct17 : Value}
    {f18 : Addr} {od18 an18 : Option Addr} {sl18 : Array (Option Value)} {oc18 kV18 dc18 pm18 cd18 ct18 : Value}
    {f19 : Addr} {od19 an19 : Option Addr} {sl19 : Array (Option Value)} {oc19 kV19 dc19 pm19 cd19 ct19 : Value}
    {f20 : Addr} {od20 an20 : Option Addr} {sl20 : Array (Option Value)} {oc20 kV20 dc20 pm20 cd20 ct20 : Value}
    {f21 : Addr} {od21 an21 : Option Addr} {sl21 : Array (Option Value)} {oc21 kV21 dc21 pm21 cd21 ct21 : Value}
    {f22 : Addr} {od22 an22 : Option Addr} {sl22 : Array (Option Value)} {oc22 kV22 dc22 pm22 cd22 ct22 : Value}
    {f23 : Addr} {od23 an23 : Option Addr} {sl23 : Array (Option Value)} {oc23 kV23 dc23 pm23 cd23 ct23 : Value}
    {f24 : Addr} {od24 an24 : Option Addr} {sl24 : Array (Option Value)} {oc24 kV24 dc24 pm24 cd24 ct24 : Value}
    {f25 : Addr} {od25 an25 : Option Addr} {sl25 : Array (Option Value)} {oc25 kV25 dc25 pm25 cd25 ct25 : Value}
    {f26 : Addr} {od26 an26 : Option Addr} {sl26 : Array (Option Value)} {oc26 kV26 dc26 pm26 cd26 ct26 : Value}
    {f27 : Addr} {od27 an27 : Option Addr} {sl27 : Array (Option Value)} {oc27 kV27 dc27 pm27 cd27 ct27 : Value}
    {f28 : Addr} {od28 an28 : Option Addr} {sl28 : Array (Option Value)} {oc28 kV28 dc28 pm28 cd28 ct28 : Value}
    {f29 : Addr} {od29 an29 : Option Addr} {sl29 : Array (Option Value)} {oc29 kV29 dc29 pm29 cd29 ct29 : Value}
    {f30 : Addr} {od30 an30 : Option Addr} {sl30 : Array (Option Value)} {oc30 kV30 dc30 pm30 cd30 ct30 : Value}
    {f31 : Addr} {od31 an31 : Option Addr} {sl31 : Array (Option Value)} {oc31 kV31 dc31 pm31 cd31 ct31 : Value}
    {f32 : Addr} {od32 an32 : Option Addr} {sl32 : Array (Option Value)} {oc32 kV32 dc32 pm32 cd32 ct32 : Value}
    {f33 : Addr} {od33 an33 : Option Addr} {sl33 : Array (Option Value)} {oc33 kV33 dc33 pm33 cd33 ct33 : Value}
    {f34 : Addr} {od34 an34 : Option Addr} {sl34 : Array (Option Value)} {oc34 kV34 dc34 pm34 cd34 ct34 : Value}
    {f35 : Addr} {od35 an35 : Option Addr} {sl35 : Array (Option Value)} {oc35 kV35 dc35 pm35 cd35 ct35 : Value}
    {f36 : Addr} {od36 an36 : Option Addr} {sl36 : Array (Option Value)} {oc36 kV36 dc36 pm36 cd36 ct36 : Value}
    {f37 : Addr} {od37 an37 : Option Addr} {sl37 : Array (Option Value)} {oc37 kV37 dc37 pm37 cd37 ct37 : Value}
    {f38 : Addr} {od38 an38 : Option Addr} {sl38 : Array (Option Value)} {oc38 kV38 dc38 pm38 cd38 ct38 : Value}
    {f39 : Addr} {od39 an39 : Option Addr} {sl39 : Array (Option Value)} {oc39 kV39 dc39 pm39 cd39 ct39 : Value}
    {f40 : Addr} {od40 an40 : Option Addr} {sl40 : Array (Option Value)} {oc40 kV40 dc40 pm40 cd40 ct40 : Value}
    {f41 : Addr} {od41 an41 : Option Addr} {sl41 : Array (Option Value)} {oc41 kV41 dc41 pm41 cd41 ct41 : Value}
    {f42 : Addr} {od42 an42 : Option Addr} {sl42 : Array (Option Value)} {oc42 kV42 dc42 pm42 cd42 ct42 : Value}
    {CI : Addr} {xnm_Mismatch xq_Mismatch xN_Mismatch xbs_Mismatch xbm_Mismatch xsn_Mismatch xsub_Mismatch xab_Mismatch xcol_Mismatch xdd_Mismatch xk0_Mismatch xk1_Mismatch xk2_Mismatch xk3_Mismatch xk5_Mismatch}
    {t_MOST_SIMPLE : Tok}
    {t_MOST_MULTIPLIERS : Tok}
    {t_LONGEST_WORD : Tok}
    {t_GREATEST : Tok}
    {CE : Addr}
    {xnm xq xN xbs xbm xsn xsub xab xcol xdd xk0 xk1 xk2 xk3 xk5}
    (a0 : PySem.W.nsIn K mainGlobals "_law_pool" = some (some (.ref f0))) (l0 : K.lookup f0 = some ⟨oc0, od0, .func (PySem.W.fnOf "_law_pool" "_law_pool" (fnArgs sPool) (fnBody sPool) (fnScope sPool) .none kV0 dc0 pm0 an0 cd0 ct0), sl0⟩) (c0 : PySem.W.codeIn K cd0 "_law_pool" = true) (k0 : PySem.W.keepIn K (.ref f0) = true)
    (a1 : PySem.W.nsIn K mainGlobals "_law_take" = some (some (.ref f1))) (l1 : K.lookup f1 = some ⟨oc1, od1, .func (PySem.W.fnOf "_law_take" "_law_take" (fnArgs sTake) (fnBody sTake) (fnScope sTake) .none kV1 dc1 pm1 an1 cd1 ct1), sl1⟩) (c1 : PySem.W.codeIn K cd1 "_law_take" = true) (k1 : PySem.W.keepIn K (.ref f1) = true)
    (a2 : PySem.W.nsIn K mainGlobals "_law_is_integer" = some (some (.ref f2))) (l2 : K.lookup f2 = some ⟨oc2, od2, .func (PySem.W.fnOf "_law_is_integer" "_law_is_integer" (fnArgs sIsint) (fnBody sIsint) (fnScope sIsint) .none kV2 dc2 pm2 an2 cd2 ct2), sl2⟩) (c2 : PySem.W.codeIn K cd2 "_law_is_integer" = true) (k2 : PySem.W.keepIn K (.ref f2) = true)
    (a3 : PySem.W.nsIn K mainGlobals "_law_same" = some (some (.ref f3))) (l3 : K.lookup f3 = some ⟨oc3, od3, .func (PySem.W.fnOf "_law_same" "_law_same" (fnArgs sSame) (fnBody sSame) (fnScope sSame) .none kV3 dc3 pm3 an3 cd3 ct3), sl3⟩) (c3 : PySem.W.codeIn K cd3 "_law_same" = true) (k3 : PySem.W.keepIn K (.ref f3) = true)
    (a4 : PySem.W.nsIn K mainGlobals "is_word" = some (some (.ref f4))) (l4 : K.lookup f4 = some ⟨oc4, od4, .func (PySem.W.fnOf "is_word" "is_word" (fnArgs sIsword) (fnBody sIsword) (fnScope sIsword) .none kV4 dc4 pm4 an4 cd4 ct4), sl4⟩) (c4 : PySem.W.codeIn K cd4 "is_word" = true) (k4 : PySem.W.keepIn K (.ref f4) = true)
    (a5 : PySem.W.nsIn K mainGlobals "simple_fault" = some (some (.ref f5))) (l5 : K.lookup f5 = some ⟨oc5, od5, .func (PySem.W.fnOf "simple_fault" "simple_fault" (fnArgs sSfault) (fnBody sSfault) (fnScope sSfault) .none kV5 dc5 pm5 an5 cd5 ct5), sl5⟩) (c5 : PySem.W.codeIn K cd5 "simple_fault" = true) (k5 : PySem.W.keepIn K (.ref f5) = true)
    (a6 : PySem.W.nsIn K mainGlobals "multiplier_fault" = some (some (.ref f6))) (l6 : K.lookup f6 = some ⟨oc6, od6, .func (PySem.W.fnOf "multiplier_fault" "multiplier_fault" (fnArgs sMfault) (fnBody sMfault) (fnScope sMfault) .none kV6 dc6 pm6 an6 cd6 ct6), sl6⟩) (c6 : PySem.W.codeIn K cd6 "multiplier_fault" = true) (k6 : PySem.W.keepIn K (.ref f6) = true)
    (a7 : PySem.W.nsIn K mainGlobals "check_rows" = some (some (.ref f7))) (l7 : K.lookup f7 = some ⟨oc7, od7, .func (PySem.W.fnOf "check_rows" "check_rows" (fnArgs sCkrows) (fnBody sCkrows) (fnScope sCkrows) .none kV7 dc7 pm7 an7 cd7 ct7), sl7⟩) (c7 : PySem.W.codeIn K cd7 "check_rows" = true) (k7 : PySem.W.keepIn K (.ref f7) = true)
    (a8 : PySem.W.nsIn K mainGlobals "check_twice" = some (some (.ref f8))) (l8 : K.lookup f8 = some ⟨oc8, od8, .func (PySem.W.fnOf "check_twice" "check_twice" (fnArgs sCktwice) (fnBody sCktwice) (fnScope sCktwice) .none kV8 dc8 pm8 an8 cd8 ct8), sl8⟩) (c8 : PySem.W.codeIn K cd8 "check_twice" = true) (k8 : PySem.W.keepIn K (.ref f8) = true)
    (a9 : PySem.W.nsIn K mainGlobals "check_endless" = some (some (.ref f9))) (l9 : K.lookup f9 = some ⟨oc9, od9, .func (PySem.W.fnOf "check_endless" "check_endless" (fnArgs sCkendl) (fnBody sCkendl) (fnScope sCkendl) .none kV9 dc9 pm9 an9 cd9 ct9), sl9⟩) (c9 : PySem.W.codeIn K cd9 "check_endless" = true) (k9 : PySem.W.keepIn K (.ref f9) = true)
    (a10 : PySem.W.nsIn K mainGlobals "_law_word" = some (some (.ref f10))) (l10 : K.lookup f10 = some ⟨oc10, od10, .func (PySem.W.fnOf "_law_word" "_law_word" (fnArgs sWord) (fnBody sWord) (fnScope sWord) .none kV10 dc10 pm10 an10 cd10 ct10), sl10⟩) (c10 : PySem.W.codeIn K cd10 "_law_word" = true) (k10 : PySem.W.keepIn K (.ref f10) = true)
    (a11 : PySem.W.nsIn K mainGlobals "_law_drawn" = some (some (.ref f11))) (l11 : K.lookup f11 = some ⟨oc11, od11, .func (PySem.W.fnOf "_law_drawn" "_law_drawn" (fnArgs sDrawn) (fnBody sDrawn) (fnScope sDrawn) .none kV11 dc11 pm11 an11 cd11 ct11), sl11⟩) (c11 : PySem.W.codeIn K cd11 "_law_drawn" = true) (k11 : PySem.W.keepIn K (.ref f11) = true)
    (a12 : PySem.W.nsIn K mainGlobals "_law_regular" = some (some (.ref f12))) (l12 : K.lookup f12 = some ⟨oc12, od12, .func (PySem.W.fnOf "_law_regular" "_law_regular" (fnArgs sRegular) (fnBody sRegular) (fnScope sRegular) .none kV12 dc12 pm12 an12 cd12 ct12), sl12⟩) (c12 : PySem.W.codeIn K cd12 "_law_regular" = true) (k12 : PySem.W.keepIn K (.ref f12) = true)
    (a13 : PySem.W.nsIn K mainGlobals "_law_nearly" = some (some (.ref f13))) (l13 : K.lookup f13 = some ⟨oc13, od13, .func (PySem.W.fnOf "_law_nearly" "_law_nearly" (fnArgs sNearly) (fnBody sNearly) (fnScope sNearly) .none kV13 dc13 pm13 an13 cd13 ct13), sl13⟩) (c13 : PySem.W.codeIn K cd13 "_law_nearly" = true) (k13 : PySem.W.keepIn K (.ref f13) = true)
    (a14 : PySem.W.nsIn K mainGlobals "_law_english" = some (some (.ref f14))) (l14 : K.lookup f14 = some ⟨oc14, od14, .func (PySem.W.fnOf "_law_english" "_law_english" (fnArgs sEnglish) (fnBody sEnglish) (fnScope sEnglish) .none kV14 dc14 pm14 an14 cd14 ct14), sl14⟩) (c14 : PySem.W.codeIn K cd14 "_law_english" = true) (k14 : PySem.W.keepIn K (.ref f14) = true)
    (a15 : PySem.W.nsIn K mainGlobals "_law_rows" = some (some (.ref f15))) (l15 : K.lookup f15 = some ⟨oc15, od15, .func (PySem.W.fnOf "_law_rows" "_law_rows" (fnArgs sRows) (fnBody sRows) (fnScope sRows) .none kV15 dc15 pm15 an15 cd15 ct15), sl15⟩) (c15 : PySem.W.codeIn K cd15 "_law_rows" = true) (k15 : PySem.W.keepIn K (.ref f15) = true)
    (a16 : PySem.W.nsIn K mainGlobals "_law_shaped" = some (some (.ref f16))) (l16 : K.lookup f16 = some ⟨oc16, od16, .func (PySem.W.fnOf "_law_shaped" "_law_shaped" (fnArgs sShaped) (fnBody sShaped) (fnScope sShaped) .none kV16 dc16 pm16 an16 cd16 ct16), sl16⟩) (c16 : PySem.W.codeIn K cd16 "_law_shaped" = true) (k16 : PySem.W.keepIn K (.ref f16) = true)
    (a17 : PySem.W.nsIn K mainGlobals "_law_made" = some (some (.ref f17))) (l17 : K.lookup f17 = some ⟨oc17, od17, .func (PySem.W.fnOf "_law_made" "_law_made" (fnArgs sMade) (fnBody sMade) (fnScope sMade) .none kV17 dc17 pm17 an17 cd17 ct17), sl17⟩) (c17 : PySem.W.codeIn K cd17 "_law_made" = true) (k17 : PySem.W.keepIn K (.ref f17) = true)
    (a18 : PySem.W.nsIn K mainGlobals "_law_counted" = some (some (.ref f18))) (l18 : K.lookup f18 = some ⟨oc18, od18, .func (PySem.W.fnOf "_law_counted" "_law_counted" (fnArgs sLctd) (fnBody sLctd) (fnScope sLctd) .none kV18 dc18 pm18 an18 cd18 ct18), sl18⟩) (c18 : PySem.W.codeIn K cd18 "_law_counted" = true) (k18 : PySem.W.keepIn K (.ref f18) = true)
    (a19 : PySem.W.nsIn K mainGlobals "_law_varied" = some (some (.ref f19))) (l19 : K.lookup f19 = some ⟨oc19, od19, .func (PySem.W.fnOf "_law_varied" "_law_varied" (fnArgs sLvar) (fnBody sLvar) (fnScope sLvar) .none kV19 dc19 pm19 an19 cd19 ct19), sl19⟩) (c19 : PySem.W.codeIn K cd19 "_law_varied" = true) (k19 : PySem.W.keepIn K (.ref f19) = true)
    (a20 : PySem.W.nsIn K mainGlobals "_law_words" = some (some (.ref f20))) (l20 : K.lookup f20 = some ⟨oc20, od20, .func (PySem.W.fnOf "_law_words" "_law_words" (fnArgs sLwords) (fnBody sLwords) (fnScope sLwords) .none kV20 dc20 pm20 an20 cd20 ct20), sl20⟩) (c20 : PySem.W.codeIn K cd20 "_law_words" = true) (k20 : PySem.W.keepIn K (.ref f20) = true)
    (a21 : PySem.W.nsIn K mainGlobals "_law_kinds" = some (some (.ref f21))) (l21 : K.lookup f21 = some ⟨oc21, od21, .func (PySem.W.fnOf "_law_kinds" "_law_kinds" (fnArgs sLkin) (fnBody sLkin) (fnScope sLkin) .none kV21 dc21 pm21 an21 cd21 ct21), sl21⟩) (c21 : PySem.W.codeIn K cd21 "_law_kinds" = true) (k21 : PySem.W.keepIn K (.ref f21) = true)
    (a22 : PySem.W.nsIn K mainGlobals "_law_odd" = some (some (.ref f22))) (l22 : K.lookup f22 = some ⟨oc22, od22, .func (PySem.W.fnOf "_law_odd" "_law_odd" (fnArgs sLodd) (fnBody sLodd) (fnScope sLodd) .none kV22 dc22 pm22 an22 cd22 ct22), sl22⟩) (c22 : PySem.W.codeIn K cd22 "_law_odd" = true) (k22 : PySem.W.keepIn K (.ref f22) = true)
    (a23 : PySem.W.nsIn K mainGlobals "mismatch" = some (some (.ref f23))) (l23 : K.lookup f23 = some ⟨oc23, od23, .func (PySem.W.fnOf "mismatch" "mismatch" (fnArgs sMism) (fnBody sMism) (fnScope sMism) .none kV23 dc23 pm23 an23 cd23 ct23), sl23⟩) (c23 : PySem.W.codeIn K cd23 "mismatch" = true) (k23 : PySem.W.keepIn K (.ref f23) = true)
    (a24 : PySem.W.nsIn K mainGlobals "lesser_count" = some (some (.ref f24))) (l24 : K.lookup f24 = some ⟨oc24, od24, .func (PySem.W.fnOf "lesser_count" "lesser_count" (fnArgs sLesc) (fnBody sLesc) (fnScope sLesc) .none kV24 dc24 pm24 an24 cd24 ct24), sl24⟩) (c24 : PySem.W.codeIn K cd24 "lesser_count" = true) (k24 : PySem.W.keepIn K (.ref f24) = true)
    (a25 : PySem.W.nsIn K mainGlobals "common_multiplier" = some (some (.ref f25))) (l25 : K.lookup f25 = some ⟨oc25, od25, .func (PySem.W.fnOf "common_multiplier" "common_multiplier" (fnArgs sCmul) (fnBody sCmul) (fnScope sCmul) .none kV25 dc25 pm25 an25 cd25 ct25), sl25⟩) (c25 : PySem.W.codeIn K cd25 "common_multiplier" = true) (k25 : PySem.W.keepIn K (.ref f25) = true)
    (a26 : PySem.W.nsIn K mainGlobals "common_system" = some (some (.ref f26))) (l26 : K.lookup f26 = some ⟨oc26, od26, .func (PySem.W.fnOf "common_system" "common_system" (fnArgs sCsys) (fnBody sCsys) (fnScope sCsys) .none kV26 dc26 pm26 an26 cd26 ct26), sl26⟩) (c26 : PySem.W.codeIn K cd26 "common_system" = true) (k26 : PySem.W.keepIn K (.ref f26) = true)
    (a27 : PySem.W.nsIn K mainGlobals "conflicts" = some (some (.ref f27))) (l27 : K.lookup f27 = some ⟨oc27, od27, .func (PySem.W.fnOf "conflicts" "conflicts" (fnArgs sConfs) (fnBody sConfs) (fnScope sConfs) .none kV27 dc27 pm27 an27 cd27 ct27), sl27⟩) (c27 : PySem.W.codeIn K cd27 "conflicts" = true) (k27 : PySem.W.keepIn K (.ref f27) = true)
    (a28 : PySem.W.nsIn K mainGlobals "first_conflict" = some (some (.ref f28))) (l28 : K.lookup f28 = some ⟨oc28, od28, .func (PySem.W.fnOf "first_conflict" "first_conflict" (fnArgs sFconf) (fnBody sFconf) (fnScope sFconf) .none kV28 dc28 pm28 an28 cd28 ct28), sl28⟩) (c28 : PySem.W.codeIn K cd28 "first_conflict" = true) (k28 : PySem.W.keepIn K (.ref f28) = true)
    (a29 : PySem.W.nsIn K mainGlobals "false_friend" = some (some (.ref f29))) (l29 : K.lookup f29 = some ⟨oc29, od29, .func (PySem.W.fnOf "false_friend" "false_friend" (fnArgs sFfr) (fnBody sFfr) (fnScope sFfr) .none kV29 dc29 pm29 an29 cd29 ct29), sl29⟩) (c29 : PySem.W.codeIn K cd29 "false_friend" = true) (k29 : PySem.W.keepIn K (.ref f29) = true)
    (a30 : PySem.W.nsIn K mainGlobals "conflict_counts" = some (some (.ref f30))) (l30 : K.lookup f30 = some ⟨oc30, od30, .func (PySem.W.fnOf "conflict_counts" "conflict_counts" (fnArgs sCcnt) (fnBody sCcnt) (fnScope sCcnt) .none kV30 dc30 pm30 an30 cd30 ct30), sl30⟩) (c30 : PySem.W.codeIn K cd30 "conflict_counts" = true) (k30 : PySem.W.keepIn K (.ref f30) = true)
    (a31 : PySem.W.nsIn K mainGlobals "_law_common" = some (some (.ref f31))) (l31 : K.lookup f31 = some ⟨oc31, od31, .func (PySem.W.fnOf "_law_common" "_law_common" (fnArgs sLcom) (fnBody sLcom) (fnScope sLcom) .none kV31 dc31 pm31 an31 cd31 ct31), sl31⟩) (c31 : PySem.W.codeIn K cd31 "_law_common" = true) (k31 : PySem.W.keepIn K (.ref f31) = true)
    (a32 : PySem.W.nsIn K mainGlobals "_law_asked" = some (some (.ref f32))) (l32 : K.lookup f32 = some ⟨oc32, od32, .func (PySem.W.fnOf "_law_asked" "_law_asked" (fnArgs sLask) (fnBody sLask) (fnScope sLask) .none kV32 dc32 pm32 an32 cd32 ct32), sl32⟩) (c32 : PySem.W.codeIn K cd32 "_law_asked" = true) (k32 : PySem.W.keepIn K (.ref f32) = true)
    (a33 : PySem.W.findIn K (.ref S) "words" = some (some (.ref f33))) (i33 : PySem.W.isFn K (.ref f33) = true) (l33 : K.lookup f33 = some ⟨oc33, od33, .func (PySem.W.fnOf "words" "System.words" (fnArgs sSysW) (fnBody sSysW) (fnScope sSysW) .none kV33 dc33 pm33 an33 cd33 ct33), sl33⟩) (c33 : PySem.W.codeIn K cd33 "System.words" = true) (k33 : PySem.W.keepIn K (.ref f33) = true)
    (a34 : PySem.W.findIn K (.ref S) "simple_value" = some (some (.ref f34))) (i34 : PySem.W.isFn K (.ref f34) = true) (l34 : K.lookup f34 = some ⟨oc34, od34, .func (PySem.W.fnOf "simple_value" "System.simple_value" (fnArgs sSysV) (fnBody sSysV) (fnScope sSysV) .none kV34 dc34 pm34 an34 cd34 ct34), sl34⟩) (c34 : PySem.W.codeIn K cd34 "System.simple_value" = true) (k34 : PySem.W.keepIn K (.ref f34) = true)
    (a35 : PySem.W.findIn K (.ref S) "multiplier" = some (some (.ref f35))) (i35 : PySem.W.isFn K (.ref f35) = true) (l35 : K.lookup f35 = some ⟨oc35, od35, .func (PySem.W.fnOf "multiplier" "System.multiplier" (fnArgs sSysM) (fnBody sSysM) (fnScope sSysM) .none kV35 dc35 pm35 an35 cd35 ct35), sl35⟩) (c35 : PySem.W.codeIn K cd35 "System.multiplier" = true) (k35 : PySem.W.keepIn K (.ref f35) = true)
    (a36 : PySem.W.findIn K (.ref S) "endless" = some (some (.ref f36))) (i36 : PySem.W.isFn K (.ref f36) = true) (l36 : K.lookup f36 = some ⟨oc36, od36, .func (PySem.W.fnOf "endless" "System.endless" (fnArgs sSysE) (fnBody sSysE) (fnScope sSysE) .none kV36 dc36 pm36 an36 cd36 ct36), sl36⟩) (c36 : PySem.W.codeIn K cd36 "System.endless" = true) (k36 : PySem.W.keepIn K (.ref f36) = true)
    (a37 : PySem.W.findIn K (.ref CP) "conflicts" = some (some (.ref f37))) (i37 : PySem.W.isFn K (.ref f37) = true) (l37 : K.lookup f37 = some ⟨oc37, od37, .func (PySem.W.fnOf "conflicts" "Passage.conflicts" (fnArgs sPsgC) (fnBody sPsgC) (fnScope sPsgC) .none kV37 dc37 pm37 an37 cd37 ct37), sl37⟩) (c37 : PySem.W.codeIn K cd37 "Passage.conflicts" = true) (k37 : PySem.W.keepIn K (.ref f37) = true)
    (a38 : PySem.W.findIn K (.ref S) "__init__" = some (some (.ref f38))) (i38 : PySem.W.isFn K (.ref f38) = true) (l38 : K.lookup f38 = some ⟨oc38, od38, .func (PySem.W.fnOf "__init__" "System.__init__" (defArgs sSysI) (defBody sSysI) (defScope sSysI) .none kV38 dc38 pm38 an38 cd38 ct38), sl38⟩) (c38 : PySem.W.codeIn K cd38 "System.__init__" = true) (k38 : PySem.W.keepIn K (.ref f38) = true)
    (a39 : PySem.W.findIn K (.ref CP) "__init__" = some (some (.ref f39))) (i39 : PySem.W.isFn K (.ref f39) = true) (l39 : K.lookup f39 = some ⟨oc39, od39, .func (PySem.W.fnOf "__init__" "Passage.__init__" (defArgs sPsgI) (defBody sPsgI) (defScope sPsgI) .none kV39 dc39 pm39 an39 cd39 ct39), sl39⟩) (c39 : PySem.W.codeIn K cd39 "Passage.__init__" = true) (k39 : PySem.W.keepIn K (.ref f39) = true)
    (a40 : PySem.W.nsIn K mainGlobals "law" = some (some (.ref f40))) (l40 : K.lookup f40 = some ⟨oc40, od40, .func (PySem.W.fnOf "law" "law" (defArgs sLaw) (defBody sLaw) (defScope sLaw) .none kV40 dc40 pm40 an40 cd40 ct40), sl40⟩) (c40 : PySem.W.codeIn K cd40 "law" = true) (k40 : PySem.W.keepIn K (.ref f40) = true)
    (a41 : PySem.W.findIn K (.ref C) "__init__" = some (some (.ref f41))) (i41 : PySem.W.typeIn K (.ref f41) = some (.type "function")) (l41 : K.lookup f41 = some ⟨oc41, od41, .func (PySem.W.fnOf "__init__" "BadSystem.__init__" (defArgs sBad) (defBody sBad) (defScope sBad) .none kV41 dc41 pm41 an41 cd41 ct41), sl41⟩) (c41 : PySem.W.codeIn K cd41 "BadSystem.__init__" = true) (k41 : PySem.W.keepIn K (.ref f41) = true)
    (a42 : PySem.W.findIn K (.ref CI) "__init__" = some (some (.ref f42))) (i42 : PySem.W.typeIn K (.ref f42) = some (.type "function")) (l42 : K.lookup f42 = some ⟨oc42, od42, .func (PySem.W.fnOf "__init__" "Mismatch.__init__" (defArgs sMisI) (defBody sMisI) (defScope sMisI) .none kV42 dc42 pm42 an42 cd42 ct42), sl42⟩) (c42 : PySem.W.codeIn K cd42 "Mismatch.__init__" = true) (k42 : PySem.W.keepIn K (.ref f42) = true)
    (gx_Mismatch : PySem.W.nsIn K mainGlobals "Mismatch" = some (some (.ref CI)))
    (xp_Mismatch_word : PySem.W.findIn K (.ref CI) "word" = some none)
    (xl_Mismatch : K.lookup CI = some (excClassObj xnm_Mismatch xq_Mismatch CI xN_Mismatch xbs_Mismatch xbm_Mismatch true xsn_Mismatch xsub_Mismatch xab_Mismatch xcol_Mismatch xdd_Mismatch xk0_Mismatch xk1_Mismatch xk2_Mismatch xk3_Mismatch xk5_Mismatch "ValueError.__new__"))
    (xr_Mismatch : PySem.HandSPX.refsVE xbm_Mismatch = true)
    (xsa_Mismatch : PySem.W.findIn K (.ref CI) "__setattr__" = some (some (.builtin "object.__setattr__")))
    (xex_Mismatch : PySem.W.subIn K (.ref CI) (.type "BaseException") = some true)
    (xty_Mismatch : PySem.W.typeIn K (.ref CI) = some (.type "type"))
    (xkc_Mismatch : PySem.W.keepIn K (.ref CI) = true)
    (gC : PySem.W.nsIn K mainGlobals "BadSystem" = some (some (.ref C)))
    (z_int : PySem.W.nsIn K mainGlobals "int" = some none)
    (z_len : PySem.W.nsIn K mainGlobals "len" = some none)
    (z_range : PySem.W.nsIn K mainGlobals "range" = some none)
    (z_isinstance : PySem.W.nsIn K mainGlobals "isinstance" = some none)
    (z_bool : PySem.W.nsIn K mainGlobals "bool" = some none)
    (z_str : PySem.W.nsIn K mainGlobals "str" = some none)
    (z_tuple : PySem.W.nsIn K mainGlobals "tuple" = some none)
    (z_list : PySem.W.nsIn K mainGlobals "list" = some none)
    (z_all : PySem.W.nsIn K mainGlobals "all" = some none)
    (z_max : PySem.W.nsIn K mainGlobals "max" = some none)
    (z_min : PySem.W.nsIn K mainGlobals "min" = some none)
    (z_enumerate : PySem.W.nsIn K mainGlobals "enumerate" = some none)
    (z_any : PySem.W.nsIn K mainGlobals "any" = some none)
    (z_sum : PySem.W.nsIn K mainGlobals "sum" = some none)
    (z_divmod : PySem.W.nsIn K mainGlobals "divmod" = some none)
    (n_MOST_SIMPLE : PySem.W.nsIn K mainGlobals "MOST_SIMPLE" = some (some (.int 24 t_MOST_SIMPLE)))
    (n_MOST_MULTIPLIERS : PySem.W.nsIn K mainGlobals "MOST_MULTIPLIERS" = some (some (.int 6 t_MOST_MULTIPLIERS)))
    (n_LONGEST_WORD : PySem.W.nsIn K mainGlobals "LONGEST_WORD" = some (some (.int 8 t_LONGEST_WORD)))
    (n_GREATEST : PySem.W.nsIn K mainGlobals "GREATEST" = some (some (.int 100000 t_GREATEST)))
    (g_System : PySem.W.nsIn K mainGlobals "System" = some (some (.ref S)))
    (pg_System : PySem.W.plainGet K S Str.empty = true)
    (hd_System : PySem.W.hasDictIn K S = true)
    (po_System : PySem.W.plainOver K S = true)
    (sa_System : PySem.W.findIn K (.ref S) "__setattr__" = some (some (.builtin "object.__setattr__")))
    (mk_System : PySem.W.makesIn K S = true)
    (kc_System : PySem.W.keepIn K (.ref S) = true)
    (o_System_simple : PySem.W.findIn K (.ref S) "simple" = some none)
    (o_System_multipliers : PySem.W.findIn K (.ref S) "multipliers" = some none)
    (o_System__values : PySem.W.findIn K (.ref S) "_values" = some none)
    (o_System__rows : PySem.W.findIn K (.ref S) "_rows" = some none)
    (g_Passage : PySem.W.nsIn K mainGlobals "Passage" = some (some (.ref CP)))
    (pg_Passage : PySem.W.plainGet K CP Str.empty = true)
    (hd_Passage : PySem.W.hasDictIn K CP = true)
    (po_Passage : PySem.W.plainOver K CP = true)
    (sa_Passage : PySem.W.findIn K (.ref CP) "__setattr__" = some (some (.builtin "object.__setattr__")))
    (mk_Passage : PySem.W.makesIn K CP = true)
    (kc_Passage : PySem.W.keepIn K (.ref CP) = true)
    (o_Passage__first : PySem.W.findIn K (.ref CP) "_first" = some none)
    (o_Passage__second : PySem.W.findIn K (.ref CP) "_second" = some none)
    (p_part : PySem.W.findIn K (.ref C) "part" = some none)
    (p_number : PySem.W.findIn K (.ref C) "number" = some none)
    (p_reason : PySem.W.findIn K (.ref C) "reason" = some none)
    (xl : K.lookup C = some (excClassObj xnm xq C xN xbs xbm true xsn xsub xab xcol xdd xk0 xk1 xk2 xk3 xk5 "ValueError.__new__"))
    (xr : PySem.HandSPX.refsVE xbm = true)
    (xsa : PySem.W.findIn K (.ref C) "__setattr__" = some (some (.builtin "object.__setattr__")))
    (xex : PySem.W.subIn K (.ref C) (.type "BaseException") = some true)
    (xty : PySem.W.typeIn K (.ref C) = some (.type "type"))
    (xkc : PySem.W.keepIn K (.ref C) = true)
    (gE : PySem.W.nsIn K mainGlobals "SayError" = some (some (.ref CE)))
    (udcl : PySem.W.isClsIn K CI = true)
    (udga : PySem.W.findIn K (.ref CI) "__getattribute__" = some (some (.builtin "BaseException.__getattribute__")))
    (udgg : PySem.W.findIn K (.ref CI) "__getattr__" = some none)
    (udca : PySem.W.findIn K (.ref CI) "__class__" = some (some (.builtin "object.__class__")))
    (udcn : PySem.W.specialIn K (.builtin "object.__class__") "__get__" = some (some (.builtin "getset_descriptor.__get__")))
    (udct : PySem.W.takesIn K (.builtin "object.__class__") = some true)
    (udcm : PySem.W.mroIn K CI (.type "object") = some true)
    (udhd : PySem.W.hasDictIn K CI = true)
    (uhcE : PySem.W.isClsIn K CE = true)
    (uhtE : PySem.W.typeIn K (.ref CE) = some (.type "type"))
    (usCC : PySem.W.subIn K (.ref CI) (.ref CI) = some true)
    (usCE : PySem.W.subIn K (.ref CI) (.ref CE) = some true)
    : ∃ fd : FuncData, (∀ (s : Shared) (v : Value), BindsTo s fd ⟨[v], []⟩ [("script", v)]) ∧ ∀ base : Heap, K.In base → base.Ns mainGlobals mg → FnOk P w K mg base CX0 12 fa fd ["script"] (spTop K) := by
  have e := hfa.symm.trans (PySem.W.mg_of X G a40)
  cases e
  have Z : Zs mg := ⟨PySem.W.mg_none_of X G z_int, PySem.W.mg_none_of X G z_len, PySem.W.mg_none_of X G z_range, PySem.W.mg_none_of X G z_isinstance, PySem.W.mg_none_of X G z_bool, PySem.W.mg_none_of X G z_str, PySem.W.mg_none_of X G z_tuple, PySem.W.mg_none_of X G z_list, PySem.W.mg_none_of X G z_all, PySem.W.mg_none_of X G z_max, PySem.W.mg_none_of X G z_min, PySem.W.mg_none_of X G z_enumerate, PySem.W.mg_none_of X G z_any, PySem.W.mg_none_of X G z_sum, PySem.W.mg_none_of X G z_divmod⟩
  have CC : Cs mg := ⟨⟨_, PySem.W.mg_of X G n_MOST_SIMPLE, ⟨_, rfl⟩⟩, ⟨_, PySem.W.mg_of X G n_MOST_MULTIPLIERS, ⟨_, rfl⟩⟩, ⟨_, PySem.W.mg_of X G n_LONGEST_WORD, ⟨_, rfl⟩⟩, ⟨_, PySem.W.mg_of X G n_GREATEST, ⟨_, rfl⟩⟩⟩
  have F0 := def_of (st := sPool) X G a0 l0 c0 k0
  have b0 := F0.fn.binds rfl (ps := ["script"]) fun _ _ _ _ _ _ us hl => match us, hl with | [_], _ => rfl
  have F1 := def_of (st := sTake) X G a1 l1 c1 k1
  have b1 := F1.fn.binds rfl (ps := ["pool", "many"]) fun _ _ _ _ _ _ us hl => match us, hl with | [_, _], _ => rfl
  have F2 := def_of (st := sIsint) X G a2 l2 c2 k2
  have b2 := F2.fn.binds rfl (ps := ["actual"]) fun _ _ _ _ _ _ us hl => match us, hl with | [_], _ => rfl
  have F3 := def_of (st := sSame) X G a3 l3 c3 k3
  have b3 := F3.fn.binds rfl (ps := ["actual", "due"]) fun _ _ _ _ _ _ us hl => match us, hl with | [_, _], _ => rfl
  have F4 := def_of (st := sIsword) X G a4 l4 c4 k4
  have b4 := F4.fn.binds rfl (ps := ["text"]) fun _ _ _ _ _ _ us hl => match us, hl with | [_], _ => rfl
  have F5 := def_of (st := sSfault) X G a5 l5 c5 k5
  have b5 := F5.fn.binds rfl (ps := ["row"]) fun _ _ _ _ _ _ us hl => match us, hl with | [_], _ => rfl
  have F6 := def_of (st := sMfault) X G a6 l6 c6 k6
  have b6 := F6.fn.binds rfl (ps := ["row"]) fun _ _ _ _ _ _ us hl => match us, hl with | [_], _ => rfl
  have F7 := def_of (st := sCkrows) X G a7 l7 c7 k7
  have b7 := F7.fn.binds rfl (ps := ["part", "rows", "most", "fault"]) fun _ _ _ _ _ _ us hl => match us, hl with | [_, _, _, _], _ => rfl
  have F8 := def_of (st := sCktwice) X G a8 l8 c8 k8
  have b8 := F8.fn.binds rfl (ps := ["simple", "multipliers"]) fun _ _ _ _ _ _ us hl => match us, hl with | [_, _], _ => rfl
  have F9 := def_of (st := sCkendl) X G a9 l9 c9 k9
  have b9 := F9.fn.binds rfl (ps := ["multipliers"]) fun _ _ _ _ _ _ us hl => match us, hl with | [_], _ => rfl
  have F10 := def_of (st := sWord) X G a10 l10 c10 k10
  have b10 := F10.fn.binds rfl (ps := ["pool", "number"]) fun _ _ _ _ _ _ us hl => match us, hl with | [_, _], _ => rfl
  have F11 := def_of (st := sDrawn) X G a11 l11 c11 k11
  have b11 := F11.fn.binds rfl (ps := ["pool"]) fun _ _ _ _ _ _ us hl => match us, hl with | [_], _ => rfl
  have F12 := def_of (st := sRegular) X G a12 l12 c12 k12
  have b12 := F12.fn.binds rfl (ps := ["pool"]) fun _ _ _ _ _ _ us hl => match us, hl with | [_], _ => rfl
  have F13 := def_of (st := sNearly) X G a13 l13 c13 k13
  have b13 := F13.fn.binds rfl (ps := ["pool"]) fun _ _ _ _ _ _ us hl => match us, hl with | [_], _ => rfl
  have F14 := def_of (st := sEnglish) X G a14 l14 c14 k14
  have b14 := F14.fn.binds rfl (ps := ["pool"]) fun _ _ _ _ _ _ us hl => match us, hl with | [_], _ => rfl
  have F15 := def_of (st := sRows) X G a15 l15 c15 k15
  have b15 := F15.fn.binds rfl (ps := ["pool"]) fun _ _ _ _ _ _ us hl => match us, hl with | [_], _ => rfl
  have F16 := def_of (st := sShaped) X G a16 l16 c16 k16
  have b16 := F16.fn.binds rfl (ps := ["pool", "rows"]) fun _ _ _ _ _ _ us hl => match us, hl with | [_, _], _ => rfl
  have F17 := def_of (st := sMade) X G a17 l17 c17 k17
  have b17 := F17.fn.binds rfl (ps := ["pool", "rows"]) fun _ _ _ _ _ _ us hl => match us, hl with | [_, _], _ => rfl
  have F18 := def_of (st := sLctd) X G a18 l18 c18 k18
  have b18 := F18.fn.binds rfl (ps := ["pool", "row", "is_even", "has_endless"]) fun _ _ _ _ _ _ us hl => match us, hl with | [_, _, _, _], _ => rfl
  have F19 := def_of (st := sLvar) X G a19 l19 c19 k19
  have b19 := F19.fn.binds rfl (ps := ["pool", "rows", "is_even"]) fun _ _ _ _ _ _ us hl => match us, hl with | [_, _, _], _ => rfl
  have F20 := def_of (st := sLwords) X G a20 l20 c20 k20
  have b20 := F20.fn.binds rfl (ps := ["rows"]) fun _ _ _ _ _ _ us hl => match us, hl with | [_], _ => rfl
  have F21 := def_of (st := sLkin) X G a21 l21 c21 k21
  have b21 := F21.fn.binds rfl (ps := ["rows"]) fun _ _ _ _ _ _ us hl => match us, hl with | [_], _ => rfl
  have F22 := def_of (st := sLodd) X G a22 l22 c22 k22
  have b22 := F22.fn.binds rfl (ps := ["first", "second"]) fun _ _ _ _ _ _ us hl => match us, hl with | [_, _], _ => rfl
  have F23 := def_of (st := sMism) X G a23 l23 c23 k23
  have b23 := F23.fn.binds rfl (ps := ["first", "second"]) fun _ _ _ _ _ _ us hl => match us, hl with | [_, _], _ => rfl
  have F24 := def_of (st := sLesc) X G a24 l24 c24 k24
  have b24 := F24.fn.binds rfl (ps := ["one", "other"]) fun _ _ _ _ _ _ us hl => match us, hl with | [_, _], _ => rfl
  have F25 := def_of (st := sCmul) X G a25 l25 c25 k25
  have b25 := F25.fn.binds rfl (ps := ["row", "other"]) fun _ _ _ _ _ _ us hl => match us, hl with | [_, _], _ => rfl
  have F26 := def_of (st := sCsys) X G a26 l26 c26 k26
  have b26 := F26.fn.binds rfl (ps := ["first", "second"]) fun _ _ _ _ _ _ us hl => match us, hl with | [_, _], _ => rfl
  have F27 := def_of (st := sConfs) X G a27 l27 c27 k27
  have b27 := F27.fn.binds rfl (ps := ["first", "second"]) fun _ _ _ _ _ _ us hl => match us, hl with | [_, _], _ => rfl
  have F28 := def_of (st := sFconf) X G a28 l28 c28 k28
  have b28 := F28.fn.binds rfl (ps := ["first", "second"]) fun _ _ _ _ _ _ us hl => match us, hl with | [_, _], _ => rfl
  have F29 := def_of (st := sFfr) X G a29 l29 c29 k29
  have b29 := F29.fn.binds rfl (ps := ["first", "second"]) fun _ _ _ _ _ _ us hl => match us, hl with | [_, _], _ => rfl
  have F30 := def_of (st := sCcnt) X G a30 l30 c30 k30
  have b30 := F30.fn.binds rfl (ps := ["first", "second"]) fun _ _ _ _ _ _ us hl => match us, hl with | [_, _], _ => rfl
  have F31 := def_of (st := sLcom) X G a31 l31 c31 k31
  have b31 := F31.fn.binds rfl (ps := ["first", "second"]) fun _ _ _ _ _ _ us hl => match us, hl with | [_, _], _ => rfl
  have F32 := def_of (st := sLask) X G a32 l32 c32 k32
  have b32 := F32.fn.binds rfl (ps := ["kind", "first", "second"]) fun _ _ _ _ _ _ us hl => match us, hl with | [_, _, _], _ => rfl
  have F33 : C8.Fun K "words" "System.words" sSysW f33 _ := ⟨oc33, od33, .none, kV33, dc33, pm33, an33, cd33, ct33, sl33, rfl, l33, c33⟩
  have b33 := F33.binds rfl (ps := ["self"]) fun _ _ _ _ _ _ us hl => match us, hl with | [_], _ => rfl
  have F34 : C8.Fun K "simple_value" "System.simple_value" sSysV f34 _ := ⟨oc34, od34, .none, kV34, dc34, pm34, an34, cd34, ct34, sl34, rfl, l34, c34⟩
  have b34 := F34.binds rfl (ps := ["self", "word"]) fun _ _ _ _ _ _ us hl => match us, hl with | [_, _], _ => rfl
  have F35 : C8.Fun K "multiplier" "System.multiplier" sSysM f35 _ := ⟨oc35, od35, .none, kV35, dc35, pm35, an35, cd35, ct35, sl35, rfl, l35, c35⟩
  have b35 := F35.binds rfl (ps := ["self", "word"]) fun _ _ _ _ _ _ us hl => match us, hl with | [_, _], _ => rfl
  have F36 : C8.Fun K "endless" "System.endless" sSysE f36 _ := ⟨oc36, od36, .none, kV36, dc36, pm36, an36, cd36, ct36, sl36, rfl, l36, c36⟩
  have b36 := F36.binds rfl (ps := ["self"]) fun _ _ _ _ _ _ us hl => match us, hl with | [_], _ => rfl
  have F37 : C8.Fun K "conflicts" "Passage.conflicts" sPsgC f37 _ := ⟨oc37, od37, .none, kV37, dc37, pm37, an37, cd37, ct37, sl37, rfl, l37, c37⟩
  have b37 := F37.binds rfl (ps := ["self"]) fun _ _ _ _ _ _ us hl => match us, hl with | [_], _ => rfl
  have F38 := fun_mk (st := sSysI) l38 c38 k38
  have b38 := F38.binds (ps := ["self", "simple", "multipliers"]) fun _ _ _ _ _ _ us hl => match us, hl with | [_, _, _], _ => rfl
  have F39 := fun_mk (st := sPsgI) l39 c39 k39
  have b39 := F39.binds (ps := ["self", "first", "second"]) fun _ _ _ _ _ _ us hl => match us, hl with | [_, _, _], _ => rfl
  have F41 := fun_mk (st := sBad) l41 c41 k41
  have b41 := F41.binds (ps := ["self", "part", "number", "reason"]) fun _ _ _ _ _ _ us hl => match us, hl with | [_, _, _, _], _ => rfl
  have TB : BadK K mg C f41 := ⟨⟨⟨_, _, _, _, _, _, _, _, _, _, _, _, _, _, _, xl, xr⟩, xsa, xex, xty, xkc⟩, a41, i41, PySem.W.mg_of X G gC, p_part, p_number, p_reason⟩
  have F42 := fun_mk (st := sMisI) l42 c42 k42
  have b42 := F42.binds (ps := ["self", "word"]) fun _ _ _ _ _ _ us hl => match us, hl with | [_, _], _ => rfl
  have ECI : E1K K mg "Mismatch" "word" CI f42 := ⟨⟨⟨_, _, _, _, _, _, _, _, _, _, _, _, _, _, _, xl_Mismatch, xr_Mismatch⟩, xsa_Mismatch, xex_Mismatch, xty_Mismatch, xkc_Mismatch⟩, a42, i42, PySem.W.mg_of X G gx_Mismatch, xp_Mismatch_word⟩
  have TS : SysK K S := ⟨⟨pg_System, hd_System, po_System, sa_System⟩, o_System_simple, o_System_multipliers, o_System__values, o_System__rows⟩
  have MS : Mk K S f38 := ⟨mk_System, a38, i38, kc_System⟩
  have TCP : PsgK K CP := ⟨⟨pg_Passage, hd_Passage, po_Passage, sa_Passage⟩, o_Passage__first, o_Passage__second⟩
  have MCP : Mk K CP f39 := ⟨mk_Passage, a39, i39, kc_Passage⟩
  refine ⟨PySem.W.fnOf "law" "law" (defArgs sLaw) (defBody sLaw) (defScope sLaw) .none kV40 dc40 pm40 an40 cd40 ct40, fun s v => .of_eq rfl, fun base _ _ => ?_⟩
  have q_word : Cal P w K mg base 1 "is_word" spIsword [] := c_is_word Z CC F4 b4
  have q_take : Cal P w K mg base 2 "_law_take" spTake [] := c_take Z F1 b1
  have q_pool : Cal P w K mg base 1 "_law_pool" (spPool K) [] := c_pool Z F0 b0
  have q_int : Cal P w K mg base 1 "_law_is_integer" spIsint [] := c_isint Z F2 b2
  have q_same : Cal P w K mg base 6 "_law_same" (spSame 4) [] := c_same Z q_int F3 b3 4
  have cS := calAt_of (c_simple_fault Z CC q_word F5 b5 : Cal P w K mg base 2 "simple_fault" spSf []) F5.mgf
  have cM := calAt_of (c_multiplier_fault Z CC q_word F6 b6 : Cal P w K mg base 2 "multiplier_fault" spMf []) F6.mgf
  have GB : FnOk P w K mg base CX0 1 _ _ ["self", "part", "number", "reason"] (spBadI C) := ok_bad TB F41
  have q_ckr := c_check_rows Z TB GB b41 cS cM F7 b7
  have q_ckt : CalX P w K mg base 3 "check_twice" (spTwice C) := c_check_twice Z TB GB b41 F8 b8
  have q_cke : CalX P w K mg base 3 "check_endless" (spEndl C) := c_check_endless Z TB GB b41 F9 b9
  have GS := ok_sysI Z CC TS ⟨_, F5.mgf, rfl⟩ ⟨_, F6.mgf, rfl⟩ q_ckr q_ckt q_cke F38
  have q_lword := c_word Z q_take F10 b10
  have q_drawn := c_drawn Z q_take q_lword F11 b11
  have q_reg := c_regular Z q_take q_lword F12 b12
  have q_near := c_nearly Z q_take q_reg F13 b13
  have q_eng := c_english Z q_take F14 b14
  have q_rows := c_rows Z q_take q_drawn q_near q_reg q_eng F15 b15
  have q_shaped := c_shaped Z q_take F16 b16
  have q_made := c_made Z (PySem.W.mg_of X G g_System) MS GS b38 q_shaped F17 b17
  have q_ctd := c_lctd (P := P) (w := w) (base := base) Z q_take F18 b18
  have q_var := c_lvar Z q_take q_ctd F19 b19
  have q_words : Cal P w K mg base 1 "_law_words" spLwords [] := c_lwords Z F20 b20
  have q_kin : Cal P w K mg base 1 "_law_kinds" spLkin [] := c_lkin Z F21 b21
  have q_odd := c_lodd Z q_words q_kin F22 b22
  have m_sv := m_simple_value (P := P) (w := w) (mg := mg) (base := base) TS ⟨a34, i34, k34⟩ F34 b34
  have m_mu := m_multiplier (P := P) (w := w) (mg := mg) (base := base) TS ⟨a35, i35, k35⟩ F35 b35
  have q_mis := c_mism Z TS m_sv m_mu F23 b23
  have GX : FnOk P w K mg base CX0 1 _ _ ["self", "word"] (spE1I "word" CI) := ok_mis ECI F42
  have q_lesc : Cal P w K mg base 1 "lesser_count" spLesc [] := c_lesc Z F24 b24
  have q_cmul := c_cmul Z q_lesc F25 b25
  have q_csys := c_csys Z TS ECI GX b42 m_sv m_mu q_mis q_cmul F26 b26
  have GP : FnOk P w K mg base (L2.CX P w) 4 _ _ ["self", "first", "second"] (spPsgI CP S CI) := ok_psgI TCP q_csys F39
  have m_no := m_none (P := P) (w := w) (mg := mg) (base := base) TCP ⟨a37, i37, k37⟩ F37 b37
  have gP := PySem.W.mg_of X G g_Passage
  have q_confs := c_confs Z gP MCP GP b39 m_no F27 b27
  have q_fconf := c_fconf Z gP MCP GP b39 m_no F28 b28
  have q_ffr := c_ffr Z gP MCP GP b39 F29 b29
  have q_ccnt := c_ccnt Z gP MCP GP b39 m_no F30 b30
  have TU : TellU K mg CI CE := ⟨⟨udcl, udga, udgg, xex_Mismatch, udca, udcn, udct, udcm⟩, ⟨udga, udgg, xex_Mismatch, udhd⟩, exm_ref xex_Mismatch (kit_ref udcl xty_Mismatch usCC), PySem.W.mg_of X G gE, kit_one (kit_ref uhcE uhtE usCE)⟩
  have q_ask := c_lask Z ECI TU q_csys q_confs q_fconf q_ffr q_ccnt F32 b32
  have q_com := c_lcom (P := P) (w := w) (base := base) Z F31 b31
  exact ok_law Z TS q_pool q_take q_rows q_var q_made q_odd q_mis q_csys q_ask q_com q_same (fun_mk (st := sLaw) l40 c40 k40)
end KN
end
set_option Elab.async false
set_option maxRecDepth 100000
namespace KN
open PySem L2
theorem walk01 {l : PySem.W.OpenLaw} {q : Program} {loose : List Str} {XP : (Str → Option Value) → Heap → Prop}
    {YP : World → Heap → Prop} {d : DefRec} {K : Params → PySem.W.Frag}
    (hn : l.most = some 63) (hdf : d.params.defaults = []) (hY : ∀ (v : World) (g : Heap), YP v g → (K v.params).In g)
    (F : ∀ (v : World) (mg : Str → Option Value) (fa : Addr) (g : Heap), (K v.params).In g → g.Ns mainGlobals mg → mg d.name = some (.ref fa) → ∃ fd : FuncData,
      (∀ (s : Shared) (u : Value), BindsTo s fd ⟨[u], []⟩ [("script", u)]) ∧ ∀ base : Heap, (K v.params).In base → base.Ns mainGlobals mg → FnOk l.prog v (K v.params) mg base CX0 12 fa fd ["script"] (spTop (K v.params))) :
    PySem.W.WalkO q loose XP YP l.row.toRowW d [] (fun f vs => PySem.call f vs) :=
  L2.walk_of (n := 63) (k := 12) (x := "script") (CX := fun _ => CX0) (sp := fun v => spTop (K v.params)) hn (by decide) hdf ⟨rfl, by decide, by decide⟩ hY F
    (fun _ _ a ns hl _ hS => ⟨a, ns, rfl, hS, hl, fun _ => rfl⟩) fun _ _ _ _ _ z => z
end KN
open PySem PySem.W PyProof.Rows in
set_option maxRecDepth 100000 in
set_option maxHeartbeats 0 in
theorem PySem.Challenge.cw_sayonce_k31_common_systems_holds : PySem.Challenge.rw_sayonce_k31_common_systems.Holds := by
  w_on; o_law; k_head; (case hw => w_witness2)
  k_fill
  refine KN.walk01 (l := PySem.Challenge.rw_sayonce_k31_common_systems) rfl rfl (fun w h Y => PySem.W.kIn_of Y) ?F
  case F =>
    intro w mg fa h KX G hmg
    refine' KN.all_mk KX G hmg ?a0 ?l0 ?c0 ?k0 ?a1 ?l1 ?c1 ?k1 ?a2 ?l2 ?c2 ?k2 ?a3 ?l3 ?c3 ?k3 ?a4 ?l4 ?c4 ?k4 ?a5 ?l5 ?c5 ?k5 ?a6 ?l6 ?c6 ?k6 ?a7 ?l7 ?c7 ?k7 ?a8 ?l8 ?c8 ?k8 ?a9 ?l9 ?c9 ?k9 ?a10 ?l10 ?c10 ?k10 ?a11 ?l11 ?c11 ?k11 ?a12 ?l12 ?c12 ?k12 ?a13 ?l13 ?c13 ?k13 ?a14 ?l14 ?c14 ?k14 ?a15 ?l15 ?c15 ?k15 ?a16 ?l16 ?c16 ?k16 ?a17 ?l17 ?c17 ?k17 ?a18 ?l18 ?c18 ?k18 ?a19 ?l19 ?c19 ?k19 ?a20 ?l20 ?c20 ?k20 ?a21 ?l21 ?c21 ?k21 ?a22 ?l22 ?c22 ?k22 ?a23 ?l23 ?c23 ?k23 ?a24 ?l24 ?c24 ?k24 ?a25 ?l25 ?c25 ?k25 ?a26 ?l26 ?c26 ?k26 ?a27 ?l27 ?c27 ?k27 ?a28 ?l28 ?c28 ?k28 ?a29 ?l29 ?c29 ?k29 ?a30 ?l30 ?c30 ?k30 ?a31 ?l31 ?c31 ?k31 ?a32 ?l32 ?c32 ?k32 ?a33 ?i33 ?l33 ?c33 ?k33 ?a34 ?i34 ?l34 ?c34 ?k34 ?a35 ?i35 ?l35 ?c35 ?k35 ?a36 ?i36 ?l36 ?c36 ?k36 ?a37 ?i37 ?l37 ?c37 ?k37 ?a38 ?i38 ?l38 ?c38 ?k38 ?a39 ?i39 ?l39 ?c39 ?k39 ?a40 ?l40 ?c40 ?k40 ?a41 ?i41 ?l41 ?c41 ?k41 ?a42 ?i42 ?l42 ?c42 ?k42 ?gx_Mismatch ?xp_Mismatch_word ?xl_Mismatch ?xr_Mismatch ?xsa_Mismatch ?xex_Mismatch ?xty_Mismatch ?xkc_Mismatch ?gC ?z_int ?z_len ?z_range ?z_isinstance ?z_bool ?z_str ?z_tuple ?z_list ?z_all ?z_max ?z_min ?z_enumerate ?z_any ?z_sum ?z_divmod ?n_MOST_SIMPLE ?n_MOST_MULTIPLIERS ?n_LONGEST_WORD ?n_GREATEST ?g_System ?pg_System ?hd_System ?po_System ?sa_System ?mk_System ?kc_System ?o_System_simple ?o_System_multipliers ?o_System__values ?o_System__rows ?g_Passage ?pg_Passage ?hd_Passage ?po_Passage ?sa_Passage ?mk_Passage ?kc_Passage ?o_Passage__first ?o_Passage__second ?p_part ?p_number ?p_reason ?xl ?xr ?xsa ?xex ?xty ?xkc ?gE ?udcl ?udga ?udgg ?udca ?udcn ?udct ?udcm ?udhd ?uhcE ?uhtE ?usCC ?usCE
    (case gx_Mismatch => k_is)
    (case gC => k_is)
    (case g_System => k_is)
    (case g_Passage => k_is)
    (case gE => k_is)
    (case a0 => k_is)
    (case l0 => k_is)
    (case c0 => k_is)
    (case k0 => k_is)
    (case a1 => k_is)
    (case l1 => k_is)
    (case c1 => k_is)
    (case k1 => k_is)
    (case a2 => k_is)
    (case l2 => k_is)
    (case c2 => k_is)
    (case k2 => k_is)
    (case a3 => k_is)
    (case l3 => k_is)
    (case c3 => k_is)
    (case k3 => k_is)
    (case a4 => k_is)
    (case l4 => k_is)
    (case c4 => k_is)
    (case k4 => k_is)
    (case a5 => k_is)
    (case l5 => k_is)
    (case c5 => k_is)
    (case k5 => k_is)
    (case a6 => k_is)
    (case l6 => k_is)
    (case c6 => k_is)
    (case k6 => k_is)
    (case a7 => k_is)
    (case l7 => k_is)
    (case c7 => k_is)
    (case k7 => k_is)
    (case a8 => k_is)
    (case l8 => k_is)
    (case c8 => k_is)
    (case k8 => k_is)
    (case a9 => k_is)
    (case l9 => k_is)
    (case c9 => k_is)
    (case k9 => k_is)
    (case a10 => k_is)
    (case l10 => k_is)
    (case c10 => k_is)
    (case k10 => k_is)
    (case a11 => k_is)
    (case l11 => k_is)
    (case c11 => k_is)
    (case k11 => k_is)
    (case a12 => k_is)
    (case l12 => k_is)
    (case c12 => k_is)
    (case k12 => k_is)
    (case a13 => k_is)
    (case l13 => k_is)
    (case c13 => k_is)
    (case k13 => k_is)
    (case a14 => k_is)
    (case l14 => k_is)
    (case c14 => k_is)
    (case k14 => k_is)
    (case a15 => k_is)
    (case l15 => k_is)
    (case c15 => k_is)
    (case k15 => k_is)
    (case a16 => k_is)
    (case l16 => k_is)
    (case c16 => k_is)
    (case k16 => k_is)
    (case a17 => k_is)
    (case l17 => k_is)
    (case c17 => k_is)
    (case k17 => k_is)
    (case a18 => k_is)
    (case l18 => k_is)
    (case c18 => k_is)
    (case k18 => k_is)
    (case a19 => k_is)
    (case l19 => k_is)
    (case c19 => k_is)
    (case k19 => k_is)
    (case a20 => k_is)
    (case l20 => k_is)
    (case c20 => k_is)
    (case k20 => k_is)
    (case a21 => k_is)
    (case l21 => k_is)
    (case c21 => k_is)
    (case k21 => k_is)
    (case a22 => k_is)
    (case l22 => k_is)
    (case c22 => k_is)
    (case k22 => k_is)
    (case a23 => k_is)
    (case l23 => k_is)
    (case c23 => k_is)
    (case k23 => k_is)
    (case a24 => k_is)
    (case l24 => k_is)
    (case c24 => k_is)
    (case k24 => k_is)
    (case a25 => k_is)
    (case l25 => k_is)
    (case c25 => k_is)
    (case k25 => k_is)
    (case a26 => k_is)
    (case l26 => k_is)
    (case c26 => k_is)
    (case k26 => k_is)
    (case a27 => k_is)
    (case l27 => k_is)
    (case c27 => k_is)
    (case k27 => k_is)
    (case a28 => k_is)
    (case l28 => k_is)
    (case c28 => k_is)
    (case k28 => k_is)
    (case a29 => k_is)
    (case l29 => k_is)
    (case c29 => k_is)
    (case k29 => k_is)
    (case a30 => k_is)
    (case l30 => k_is)
    (case c30 => k_is)
    (case k30 => k_is)
    (case a31 => k_is)
    (case l31 => k_is)
    (case c31 => k_is)
    (case k31 => k_is)
    (case a32 => k_is)
    (case l32 => k_is)
    (case c32 => k_is)
    (case k32 => k_is)
    (case a33 => k_is)
    (case i33 => k_is)
    (case l33 => k_is)
    (case c33 => k_is)
    (case k33 => k_is)
    (case a34 => k_is)
    (case i34 => k_is)
    (case l34 => k_is)
    (case c34 => k_is)
    (case k34 => k_is)
    (case a35 => k_is)
    (case i35 => k_is)
    (case l35 => k_is)
    (case c35 => k_is)
    (case k35 => k_is)
    (case a36 => k_is)
    (case i36 => k_is)
    (case l36 => k_is)
    (case c36 => k_is)
    (case k36 => k_is)
    (case a37 => k_is)
    (case i37 => k_is)
    (case l37 => k_is)
    (case c37 => k_is)
    (case k37 => k_is)
    (case a38 => k_is)
    (case i38 => k_is)
    (case l38 => k_is)
    (case c38 => k_is)
    (case k38 => k_is)
    (case a39 => k_is)
    (case i39 => k_is)
    (case l39 => k_is)
    (case c39 => k_is)
    (case k39 => k_is)
    (case a40 => k_is)
    (case l40 => k_is)
    (case c40 => k_is)
    (case k40 => k_is)
    (case a41 => k_is)
    (case i41 => k_is)
    (case l41 => k_is)
    (case c41 => k_is)
    (case k41 => k_is)
    (case a42 => k_is)
    (case i42 => k_is)
    (case l42 => k_is)
    (case c42 => k_is)
    (case k42 => k_is)
    (case xp_Mismatch_word => k_is)
    (case xl_Mismatch => k_is)
    (case xr_Mismatch => first | rfl | decide +kernel)
    (case xsa_Mismatch => k_is)
    (case xex_Mismatch => k_is)
    (case xty_Mismatch => k_is)
    (case xkc_Mismatch => k_is)
    (case z_int => k_is)
    (case z_len => k_is)
    (case z_range => k_is)
    (case z_isinstance => k_is)
    (case z_bool => k_is)
    (case z_str => k_is)
    (case z_tuple => k_is)
    (case z_list => k_is)
    (case z_all => k_is)
    (case z_max => k_is)
    (case z_min => k_is)
    (case z_enumerate => k_is)
    (case z_any => k_is)
    (case z_sum => k_is)
    (case z_divmod => k_is)
    (case n_MOST_SIMPLE => k_is)
    (case n_MOST_MULTIPLIERS => k_is)
    (case n_LONGEST_WORD => k_is)
    (case n_GREATEST => k_is)
    (case pg_System => k_is)
    (case hd_System => k_is)
    (case po_System => k_is)
    (case sa_System => k_is)
    (case mk_System => k_is)
    (case kc_System => k_is)
    (case o_System_simple => k_is)
    (case o_System_multipliers => k_is)
    (case o_System__values => k_is)
    (case o_System__rows => k_is)
    (case pg_Passage => k_is)
    (case hd_Passage => k_is)
    (case po_Passage => k_is)
    (case sa_Passage => k_is)
    (case mk_Passage => k_is)
    (case kc_Passage => k_is)
    (case o_Passage__first => k_is)
    (case o_Passage__second => k_is)
    (case p_part => k_is)
    (case p_number => k_is)
    (case p_reason => k_is)
    (case xl => k_is)
    (case xr => first | rfl | decide +kernel)
    (case xsa => k_is)
    (case xex => k_is)
    (case xty => k_is)
    (case xkc => k_is)
    (case udcl => k_is)
    (case udga => k_is)
    (case udgg => k_is)
    (case udca => k_is)
    (case udcn => k_is)
    (case udct => k_is)
    (case udcm => k_is)
    (case udhd => k_is)
    (case uhcE => k_is)
    (case uhtE => k_is)
    (case usCC => first | rfl | k_is)
    (case usCE => first | rfl | k_is)
