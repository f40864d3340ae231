import PyProof.Rows.All
import Wide.All
import OpenK.AllK
import Wide.FinOn
import KE.KStateDown
import HandS.Base
import HandS.Call
import HandS.Ends
import HandS.More
import HandS.Words
import HandS.Exc
import HandS.Defaults
import HandS.HeadHook1
import HandS.HeadHook2
import HandS.Head0
import HandS.Head1
import HandS.Head2
import HandS.ForMost
import HandS.ForExc
import HandS.ExcInit
import HandS.ExcField
import HandS.IsInst
import HandS.Wide
import HandS.OwnEq
import KE.KxText
import HandS.StrMore
import PyProof.Rows.StrCut
import HandS.SetBool
import HandS.SetKeys
import PyProof.Rows.SetListFold
import HandS.SetFor
import HandS.DeepEq
import HandS.WideBits
import HandS.HeadEnd
import PySem.Challenge.RW_roomleft_k05_equality_of_kinds
set_option Elab.async false
set_option linter.all false
set_option maxRecDepth 100000
set_option maxHeartbeats 8000000
namespace Me
open PySem PySem.Spec PyProof.Rows L2
/-! ### the text -/
def top (i : Nat) : Stmt := PySem.Challenge.pw_roomleft_k05_equality_of_kinds.main.body.getD i (.Pass ⟨0, 0, 0, 0⟩)
/-- the classes of kinds: name, fields, has its own __init__ -/
def kcs : List (Str × List Str × Bool) := [("Nothing", [], false), ("Number", ["low", "high", "width"], true), ("Bits", ["many"], true), ("Call", ["name"], true), ("Items", ["item", "width"], true), ("Way", ["word", "name", "kind"], true), ("Door", ["word", "name", "kind"], true), ("Part", ["name", "kind"], true), ("Room", ["word", "name", "kind"], true), ("Choice", ["ways"], true), ("Row", ["parts"], true)]
def allK : List Str := ["low", "high", "width", "many", "name", "item", "word", "kind", "ways", "parts"]
def tys : List String := ["NoneType", "bool", "int", "str", "tuple", "list", "dict"]
/-! ### what is asked of the written part -/
def oexB (K : PySem.W.Frag) (C : Addr) : Bool := match K.lookup C with
  | some ⟨.type "type", _, .cls cd, sl⟩ => (match cd.mro, sl.toList with
    | .ref C' :: bm, [_, _, _, _, some (.builtin n), _] => C' == C && (n == "ValueError.__new__" && (!cd.hasDel && (cd.hasDict && PySem.HandSPX.refsVE bm)))
    | _, _ => false)
  | _ => false
def eqB (a b : Option Bool) : Bool := decide (a = b)
def kcL (K : PySem.W.Frag) (x : Str) (ini : Bool) : List Bool :=
  [He.eqO (PySem.W.nsIn K mainGlobals x) (some (some (.ref (He.ga K x)))), PySem.W.plainGet K (He.ga K x) Str.empty, PySem.W.hasDictIn K (He.ga K x), PySem.W.plainOver K (He.ga K x), He.eqO (PySem.W.findIn K (.ref (He.ga K x)) "__setattr__") (some (some (.builtin "object.__setattr__"))),
   PySem.W.makesIn K (He.ga K x), PySem.W.keepIn K (.ref (He.ga K x)), He.eqO (PySem.W.findIn K (.ref (He.ga K x)) "__class__") (some (some (.builtin "object.__class__"))), eqB (PySem.W.mroIn K (He.ga K x) (.type "object")) (some true),
   allK.all (fun f => He.eqO (PySem.W.findIn K (.ref (He.ga K x)) f) (some none)), He.eqO (PySem.W.findIn K (.ref (He.ga K x)) "__eq__") (some (some (.ref (He.ma K (He.ga K x) "__eq__")))), PySem.W.isFn K (.ref (He.ma K (He.ga K x) "__eq__")), PySem.W.keepIn K (.ref (He.ma K (He.ga K x) "__eq__")),
   kcs.all (fun y => eqB (PySem.W.kitOne K (.ref (He.ga K x)) (.ref (He.ga K y.1))) (some (decide (x = y.1)))), tys.all (fun t => eqB (PySem.W.kitOne K (.ref (He.ga K x)) (.type t)) (some false)), tys.all (fun t => eqB (PySem.W.kitOne K (.type t) (.ref (He.ga K x))) (some false)), kcs.all (fun y => PySem.W.notFirst K (He.ga K x) (.ref (He.ga K y.1))), PySem.W.notFirst K (He.ga K x) (.type "NoneType"), eqB (PySem.W.subIn K (.ref (He.ga K x)) (.type "NoneType")) (some false),
   if ini then He.eqO (PySem.W.findIn K (.ref (He.ga K x)) "__init__") (some (some (.ref (He.ma K (He.ga K x) "__init__")))) && (PySem.W.isFn K (.ref (He.ma K (He.ga K x) "__init__")) && PySem.W.keepIn K (.ref (He.ma K (He.ga K x) "__init__"))) else He.eqO (PySem.W.findIn K (.ref (He.ga K x)) "__init__") (some (some (.builtin "object.__init__")))]
def exL (K : PySem.W.Frag) : List Bool :=
  [kcs.all (fun y => (kcL K y.1 y.2.2).all id), oexB K (He.ga K "BadKind"), He.eqO (PySem.W.nsIn K mainGlobals "BadKind") (some (some (.ref (He.ga K "BadKind")))), He.eqO (PySem.W.findIn K (.ref (He.ga K "BadKind")) "__setattr__") (some (some (.builtin "object.__setattr__"))),
   eqB (PySem.W.subIn K (.ref (He.ga K "BadKind")) (.type "BaseException")) (some true), decide (PySem.W.typeIn K (.ref (He.ga K "BadKind")) = some (.type "type")), PySem.W.keepIn K (.ref (He.ga K "BadKind")),
   He.eqO (PySem.W.findIn K (.ref (He.ga K "BadKind")) "__getattribute__") (some (some (.builtin "BaseException.__getattribute__"))), He.eqO (PySem.W.findIn K (.ref (He.ga K "BadKind")) "__getattr__") (some none), PySem.W.hasDictIn K (He.ga K "BadKind"),
   eqB (PySem.W.exmOne K (.ref (He.ga K "BadKind")) (.ref (He.ga K "BadKind"))) (some true), He.eqO (PySem.W.findIn K (.ref (He.ga K "BadKind")) "part") (some none), He.eqO (PySem.W.findIn K (.ref (He.ga K "BadKind")) "__init__") (some (some (.ref (He.ma K (He.ga K "BadKind") "__init__")))),
   decide (PySem.W.typeIn K (.ref (He.ma K (He.ga K "BadKind") "__init__")) = some (.type "function")), He.eqO (PySem.W.specialIn K (.builtin "object.__class__") "__get__") (some (some (.builtin "getset_descriptor.__get__"))), eqB (PySem.W.takesIn K (.builtin "object.__class__")) (some true)]
def exB (K : PySem.W.Frag) : Bool := (exL K).all id
def dG (x : Str) (i : Nat) : He.DefD := ⟨(x, none), x, x, defArgs (top i), defBody (top i), defScope (top i), [], []⟩
def dM (c m : Str) (i j : Nat) (d : List He.Dv) : He.DefD := ⟨(c, some m), m, c ++ "." ++ m, defArgs (inClass (top i) j), defBody (inClass (top i) j), defScope (inClass (top i) j), d, []⟩
def fn1 : List He.DefD := [dG "is_int" 1, dG "is_int_within" 2, dG "is_name" 3, dG "is_bits" 4, dG "is_word" 5, dG "is_simple" 15, dG "check_word_and_name" 22, dG "are_ways" 23, dG "are_parts" 24, dG "have_unlike_names" 25, dG "are_apart" 26, dG "_law_is_int" 28, dG "_law_same_dict" 29, dG "_law_same" 30, dG "_law_start" 31, dG "_law_pull" 32, dG "_law_big" 33, dG "_law_name" 34, dG "_law_bits" 35, dG "_law_words" 36, dG "_law_number" 37, dG "_law_flat" 38, dG "_law_simple" 39, dG "_law_kind" 40, dG "_law_way" 41, dG "_law_place" 42, dG "_law_any_inner" 43, dG "_law_any" 44, dG "_law_changed_simple" 45, dG "_law_changed_inner" 46, dG "_law_changed" 47, dG "law" 48]
def fn2 : List He.DefD := [dM "BadKind" "__init__" 8 0 [], dM "Nothing" "__eq__" 10 0 [], dM "Number" "__init__" 11 0 [.non], dM "Number" "__eq__" 11 1 [], dM "Bits" "__init__" 12 0 [], dM "Bits" "__eq__" 12 1 [], dM "Call" "__init__" 13 0 [], dM "Call" "__eq__" 13 1 [], dM "Items" "__init__" 14 0 [.non], dM "Items" "__eq__" 14 1 [], dM "Way" "__init__" 16 0 [], dM "Way" "__eq__" 16 1 [], dM "Door" "__init__" 17 0 [], dM "Door" "__eq__" 17 1 [], dM "Part" "__init__" 18 0 [], dM "Part" "__eq__" 18 1 [], dM "Room" "__init__" 19 0 [], dM "Room" "__eq__" 19 1 [], dM "Choice" "__init__" 20 0 [], dM "Choice" "__eq__" 20 1 [], dM "Row" "__init__" 21 0 [], dM "Row" "__eq__" 21 1 []]
def fn : List He.DefD := fn1 ++ fn2
def gls : List Str := ["is_int", "is_int_within", "is_name", "is_bits", "is_word", "is_simple", "check_word_and_name", "are_ways", "are_parts", "have_unlike_names", "are_apart", "_law_is_int", "_law_same_dict", "_law_same", "_law_start", "_law_pull", "_law_big", "_law_name", "_law_bits", "_law_words", "_law_number", "_law_flat", "_law_simple", "_law_kind", "_law_way", "_law_place", "_law_any_inner", "_law_any", "_law_changed_simple", "_law_changed_inner", "_law_changed", "law"]
def frees : List Str := ["isinstance", "int", "bool", "str", "dict", "list", "tuple", "len", "range", "all", "any", "enumerate", "min"]
def fa : List He.Fa := gls.map .glo ++ frees.map .free
/-! ### the Hook -/
abbrev AlK : Type := He.AlD × Bool
def obsK (K : PySem.W.Frag) : AlK := (He.obsD fa fn K, exB K)
def valK : AlK := (He.valD fn, true)
def obK (g : Addr → Option Obj) : AlK := obsK (He.frG g (He.asD g 4))
def hk : PySem.W.Hook where
  α := AlK
  obs := fun s => obK s.heap.get?
  val := fun _ => valK
  says := fun _ h => ∃ K : PySem.W.Frag, K.In h ∧ obsK K = valK
  of := fun _ _ e => ⟨_, He.frG_in, e⟩
  keeps := fun _ _ _ ⟨K, hK, c⟩ k => ⟨K, PySem.W.Frag.In.keeps hK k, c⟩
theorem obK_eq {g : Addr → Option Obj} {s : Shared} (h : ∀ a, g a = s.heap.get? a) : obK g = hk.obs s := by
  have e : g = s.heap.get? := funext h
  rw [e] <;> rfl
end Me
set_option maxHeartbeats 0
namespace Me
open PySem PySem.Spec PyProof.Rows L2
abbrev R : PySem.W.OpenRow := PySem.W.OpenLaw.row PySem.Challenge.rw_roomleft_k05_equality_of_kinds
def ob (s : PySem.W.SharedT) : AlK := obK (HandSHeadRun.getT s)
theorem ob_eq (s : PySem.W.SharedT) : ob s = hk.obs s.abs := obK_eq (HandSHeadRun.getT_eq s)
def loose1 : List PySem.Str := ["RoomError", "BadKind", "Nothing", "Number", "Bits", "Call", "Items", "Way", "Door", "Part", "Room", "Choice", "Row"]
def loose2 : List PySem.Str := ["is_int", "is_int_within", "is_name", "is_bits", "is_word", "is_simple", "check_word_and_name", "are_ways", "are_parts", "have_unlike_names", "are_apart", "_law_is_int", "_law_same_dict"]
def loose3 : List PySem.Str := ["_law_same", "_law_start", "_law_pull", "_law_big", "_law_name", "_law_bits", "_law_words", "_law_number", "_law_flat", "_law_simple", "_law_kind", "_law_way", "_law_place"]
def loose4 : List PySem.Str := ["_law_any_inner", "_law_any", "_law_changed_simple", "_law_changed_inner", "_law_changed"]
def loose : List PySem.Str := loose1 ++ loose2 ++ loose3 ++ loose4
theorem run (w : World) : HandSHeadRun.RunEq R (PySem.W.view R.prog [48]) hk ob 6000 loose w := by
  intro os
  kernel_rfl
end Me
set_option maxHeartbeats 8000000
namespace Me
open PySem L2
/-! ### the readings, one step each, what follows last -/
section
variable {σ : L2.St} {H : Hp} {Q : VK} {QB : Bool → Hp → Prop} {QA : List V → Hp → Prop} {D : Ends} {K : PySem.W.Frag}
theorem i_var {i : Nat} {v : V} (e : σ[i]? = some (some v)) (q : Q v H) : tVar i σ H Q := ⟨v, e, q⟩
theorem i_c {v : V} (q : Q v H) : tC v σ H Q := q
theorem i_op {r : R2} {ta tb : TE} (q : ta σ H fun x H1 => tb σ H1 fun y H2 => r x y H2 Q) : tOp r ta tb σ H Q := q
theorem i_un {r : V → Hp → VK → Prop} {ta : TE} (q : ta σ H fun x H1 => r x H1 Q) : tUn r ta σ H Q := q
theorem i_nil (q : QA [] H) : tNil σ H QA := q
theorem i_cons {ta : TE} {tr : TA} (q : ta σ H fun x H1 => tr σ H1 fun xs H2 => QA (x :: xs) H2) : tCons ta tr σ H QA := q
theorem i_cb {r : List V → Hp → VK → Prop} {t : TA} (q : t σ H fun vs H1 => r vs H1 Q) : tCB r t σ H Q := q
theorem i_call {sp : Sp} {dvs : List V} {E : XK} {t : TA} (q : t σ H fun vs H1 => sp (vs ++ dvs) H1 Q E) : tCall sp dvs E t σ H Q := q
theorem i_seq {t u : TS} (q : t { D with nx := u D } σ H) : tSeq t u D σ H := q
theorem i_next (q : D.nx σ H) : tNext D σ H := q
theorem i_asg {te : TE} {g : TG} (q : te σ H fun x H1 => g x σ H1 D.nx) : tAsg te g D σ H := q
theorem i_gname {i : Nat} {v : V} {R : L2.St → Hp → Prop} (q : R (σ.set i (some v)) H) : gName i v σ H R := q
theorem i_gsub {to ti : TE} {t : TSet} {v : V} {R : L2.St → Hp → Prop} (q : to σ H fun o H1 => ti σ H1 fun i H2 => t o i v H2 fun H3 => R σ H3) : gSub to ti t v σ H R := q
theorem i_ret {te : TE} (q : te σ H D.rt) : tRet te D σ H := q
theorem i_retN (q : D.rt .non H) : tRetN D σ H := q
theorem i_drop {te : TE} (q : te σ H fun _ H1 => D.nx σ H1) : tDrop te D σ H := q
theorem i_ifS {c : TT} {t u : TS} (q : c σ H fun b H1 => if b = true then t D σ H1 else u D σ H1) : tIfS c t u D σ H := q
theorem i_if {c : TT} {ta tb : TE} (q : c σ H fun b H1 => if b = true then ta σ H1 Q else tb σ H1 Q) : tIf c ta tb σ H Q := q
theorem i_and {t u : TT} (q : t σ H fun c H1 => if c = true then u σ H1 QB else QB false H1) : tAnd t u σ H QB := q
theorem i_or {t u : TT} (q : t σ H fun c H1 => if c = true then QB true H1 else u σ H1 QB) : tOr t u σ H QB := q
theorem i_not {t : TT} (q : t σ H fun c H1 => QB (!c) H1) : tNot t σ H QB := q
theorem i_andV {ta tb : TE} (q : ta σ H fun x H1 => ∃ c, x = .bl c ∧ if c = true then tb σ H1 Q else Q (.bl false) H1) : tAndV ta tb σ H Q := q
theorem i_orV {ta tb : TE} (q : ta σ H fun x H1 => ∃ c, x = .bl c ∧ if c = true then Q (.bl true) H1 else tb σ H1 Q) : tOrV ta tb σ H Q := q
theorem i_notV {ta : TE} (q : ta σ H fun x H1 => ∃ c, x = .bl c ∧ Q (.bl (!c)) H1) : tNotV ta σ H Q := q
theorem i_test {t : TE} (q : t σ H fun x H' => ∃ k, x = .bl k ∧ QB k H') : tTest t σ H QB := q
theorem i_tB {t : TE} (q : t σ H fun x H' => ∃ k, x = .bl k ∧ QB k H') : tB t σ H QB := q
theorem i_bl {b : Bool} {R : Bool → Prop} (q : R b) : ∃ k, V.bl b = .bl k ∧ R k := ⟨b, rfl, q⟩
theorem i_rI0 {g : Int → Int → V} {i j : Int} (q : Q (g i j) H) : rI0 g (.int i) (.int j) H Q := ⟨i, j, rfl, rfl, q⟩
theorem i_rI {C : Int → Int → Prop} {g : Int → Int → V} {i j : Int} (c : C i j) (q : Q (g i j) H) : rI C g (.int i) (.int j) H Q := ⟨i, j, rfl, rfl, c, q⟩
theorem i_rU {g : Int → V} {i : Int} (q : Q (g i) H) : rU g (.int i) H Q := ⟨i, rfl, q⟩
theorem i_rEq {x y : V} (s : scal x y = true) (q : Q (.bl (decide (x = y))) H) : rEq x y H Q := ⟨s, q⟩
theorem i_rNe {x y : V} (s : scal x y = true) (q : Q (.bl (!decide (x = y))) H) : rNe x y H Q := ⟨s, q⟩
theorem i_ixl {p : Addr} {xs : List V} {i : Int} {v : V} (h : H p = some (.lst xs)) (e : atI xs i = some v) (q : Q v H) : rIxL K (.ref p) (.int i) H Q := ⟨p, xs, i, v, rfl, rfl, SqL.of h, e, q⟩
theorem i_ixt {p : Addr} {xs : List V} {i : Int} {v : V} (h : H p = some (.tup xs)) (e : atI xs i = some v) (q : Q v H) : rIxT K (.ref p) (.int i) H Q := ⟨p, xs, i, v, rfl, rfl, SqT.of h, e, q⟩
theorem i_setl {p : Addr} {xs : List V} {k : Int} {j : Nat} {v : V} {R : Hp → Prop} (h : H p = some (.lst xs)) (e : ixN xs.length k = some j) (q : R (upd H p (.lst (xs.set j v)))) : rSetL (.ref p) (.int k) v H R := ⟨p, xs, k, j, rfl, rfl, h, e, q⟩
theorem i_lst {t : TA} (q : t σ H fun xs H1 => xs.length ≤ sizeLine ∧ ∀ p, H1 p = none → Q (.ref p) (upd H1 p (.lst xs))) : tLst t σ H Q := q
theorem i_tup {t : TA} (q : t σ H fun xs H1 => xs.length ≤ sizeLine ∧ ∀ p, H1 p = none → Q (.ref p) (upd H1 p (.tup xs))) : tTup t σ H Q := q
theorem i_dnew (q : ∀ p, H p = none → Q (.ref p) (upd H p (.dK []))) : tDNewK σ H Q := q
theorem i_len {p : Addr} {xs : List V} {R : V → Hp → Prop} {vs : List V} (ev : vs = [.ref p]) (h : H p = some (.lst xs)) (q : R (.int xs.length) H) : ∃ (p : Addr) (ys : List V), vs = [V.ref p] ∧ (SqL K H p ys ∨ SqT K H p ys) ∧ R (.int ys.length) H := ⟨p, xs, ev, .inl (SqL.of h), q⟩
theorem i_lenT {p : Addr} {xs : List V} {R : V → Hp → Prop} {vs : List V} (ev : vs = [.ref p]) (h : H p = some (.tup xs)) (q : R (.int xs.length) H) : ∃ (p : Addr) (ys : List V), vs = [V.ref p] ∧ (SqL K H p ys ∨ SqT K H p ys) ∧ R (.int ys.length) H := ⟨p, xs, ev, .inr (SqT.of h), q⟩
end
/-! ### tests -/
theorem i_itd {p : Prop} [Decidable p] {A B : Prop} (ht : p → A) (hf : ¬ p → B) : if decide p = true then A else B := by
  by_cases h : p
  · rw [if_pos (decide_eq_true h)]; exact ht h
  · rw [decide_eq_false h, if_neg Bool.false_ne_true]; exact hf h
theorem i_itn {p : Prop} [Decidable p] {A B : Prop} (ht : ¬ p → A) (hf : p → B) : if (!decide p) = true then A else B := by
  by_cases h : p
  · rw [decide_eq_true h]; exact hf h
  · rw [decide_eq_false h]; exact ht h
theorem i_itb {c : Bool} {A B : Prop} (ht : c = true → A) (hf : c = false → B) : if c = true then A else B := by
  cases c
  · exact hf rfl
  · exact ht rfl
theorem i_itei {a b : Int} {A B : Prop} (ht : a = b → A) (hf : a ≠ b → B) : if decide (V.int a = V.int b) = true then A else B :=
  i_itd (fun h => ht (V.int.inj h)) fun h => hf fun e => h (by rw [e])
theorem i_iten {a b : Int} {A B : Prop} (ht : a ≠ b → A) (hf : a = b → B) : if (!decide (V.int a = V.int b)) = true then A else B :=
  i_itn (fun h => ht fun e => h (by rw [e])) fun h => hf (V.int.inj h)
theorem i_ites {a b : Str} {A B : Prop} (ht : a = b → A) (hf : a ≠ b → B) : if decide (V.str a = V.str b) = true then A else B :=
  i_itd (fun h => ht (V.str.inj h)) fun h => hf fun e => h (by rw [e])
theorem i_itesn {a b : Str} {A B : Prop} (ht : a ≠ b → A) (hf : a = b → B) : if (!decide (V.str a = V.str b)) = true then A else B :=
  i_itn (fun h => ht fun e => h (by rw [e])) fun h => hf (V.str.inj h)
/-! ### the heap -/
theorem upd_get {H : Hp} {a b : Addr} {o : HO} {u : Option HO} (n : b ≠ a) (h : H b = u) : upd H a o b = u := by rw [upd_ne n]; exact h
theorem upd_none {H : Hp} {a b : Addr} {o : HO} (h : upd H a o b = none) : b ≠ a ∧ H b = none := by
  by_cases e : b = a
  · subst e; rw [upd_same] at h; cases h
  · rw [upd_ne e] at h; exact ⟨e, h⟩
theorem ne_lt {H : Hp} {a b : Addr} {xs ys : List V} (h : H a = some (.lst xs)) (h' : H b = some (.tup ys)) : a ≠ b := ne_of h h' (by intro z; cases z)
theorem ne_ll {H : Hp} {a b : Addr} {xs ys : List V} (h : H a = some (.lst xs)) (h' : H b = some (.lst ys)) (n : xs ≠ ys) : a ≠ b := ne_of h h' (by intro z; cases z; exact n rfl)
/-! ### the script's reader -/
/-- at p: a list of the items' list (at L), a place, a number that is used up, a number that is stirred -/
def StAt (H : Hp) (p L : Addr) : Prop := ∃ (ns : List Int) (i b c : Int), H p = some (.lst [.ref L, .int i, .int b, .int c]) ∧ H L = some (.lst (ns.map V.int)) ∧ ns.length ≤ 63 ∧ 0 ≤ i ∧ 0 ≤ b ∧ 0 ≤ c ∧ c < 2147483647
def StOk (H : Hp) (p : Addr) : Prop := ∃ L, StAt H p L
/-- the reader has gone on, nothing else has changed -/
def Went (p : Addr) (H H' : Hp) : Prop := StOk H' p ∧ (∀ a o, a ≠ p → H a = some o → H' a = some o) ∧ ∀ L, StAt H p L → StAt H' p L
theorem Went.get {p : Addr} {H H' : Hp} {a : Addr} {o : HO} (w : Went p H H') (n : a ≠ p) (h : H a = some o) : H' a = some o := w.2.1 a o n h
theorem Went.trans {p : Addr} {H H1 H2 : Hp} (a : Went p H H1) (b : Went p H1 H2) : Went p H H2 := ⟨b.1, fun x o n h => b.2.1 x o n (a.2.1 x o n h), fun L h => b.2.2 L (a.2.2 L h)⟩
theorem StAt.uniq {H : Hp} {p L L' : Addr} (h : StAt H p L) (h' : StAt H p L') : L = L' := by
  obtain ⟨_, _, _, _, e, _⟩ := h
  obtain ⟨_, _, _, _, e', _⟩ := h'
  rw [e] at e'
  injection e' with e'
  injection e' with e'
  injection e' with e' _
  exact V.ref.inj e'
theorem went_mk {H H' : Hp} {p L : Addr} (h : StAt H p L) (h' : StAt H' p L) (f : ∀ a o, a ≠ p → H a = some o → H' a = some o) : Went p H H' := ⟨⟨L, h'⟩, f, fun L' q => by rw [← h.uniq q]; exact h'⟩
theorem kb_NoneType_int : kitB "NoneType" "int" = some false := by decide +kernel
theorem kb_NoneType_bool : kitB "NoneType" "bool" = some false := by decide +kernel
theorem kb_NoneType_str : kitB "NoneType" "str" = some false := by decide +kernel
theorem kb_NoneType_dict : kitB "NoneType" "dict" = some false := by decide +kernel
theorem kb_NoneType_list : kitB "NoneType" "list" = some false := by decide +kernel
theorem kb_NoneType_tuple : kitB "NoneType" "tuple" = some false := by decide +kernel
theorem kb_bool_int : kitB "bool" "int" = some true := by decide +kernel
theorem kb_bool_bool : kitB "bool" "bool" = some true := by decide +kernel
theorem kb_bool_str : kitB "bool" "str" = some false := by decide +kernel
theorem kb_bool_dict : kitB "bool" "dict" = some false := by decide +kernel
theorem kb_bool_list : kitB "bool" "list" = some false := by decide +kernel
theorem kb_bool_tuple : kitB "bool" "tuple" = some false := by decide +kernel
theorem kb_int_int : kitB "int" "int" = some true := by decide +kernel
theorem kb_int_bool : kitB "int" "bool" = some false := by decide +kernel
theorem kb_int_str : kitB "int" "str" = some false := by decide +kernel
theorem kb_int_dict : kitB "int" "dict" = some false := by decide +kernel
theorem kb_int_list : kitB "int" "list" = some false := by decide +kernel
theorem kb_int_tuple : kitB "int" "tuple" = some false := by decide +kernel
theorem kb_str_int : kitB "str" "int" = some false := by decide +kernel
theorem kb_str_bool : kitB "str" "bool" = some false := by decide +kernel
theorem kb_str_str : kitB "str" "str" = some true := by decide +kernel
theorem kb_str_dict : kitB "str" "dict" = some false := by decide +kernel
theorem kb_str_list : kitB "str" "list" = some false := by decide +kernel
theorem kb_str_tuple : kitB "str" "tuple" = some false := by decide +kernel
theorem kb_tuple_int : kitB "tuple" "int" = some false := by decide +kernel
theorem kb_tuple_bool : kitB "tuple" "bool" = some false := by decide +kernel
theorem kb_tuple_str : kitB "tuple" "str" = some false := by decide +kernel
theorem kb_tuple_dict : kitB "tuple" "dict" = some false := by decide +kernel
theorem kb_tuple_list : kitB "tuple" "list" = some false := by decide +kernel
theorem kb_tuple_tuple : kitB "tuple" "tuple" = some true := by decide +kernel
theorem kb_list_int : kitB "list" "int" = some false := by decide +kernel
theorem kb_list_bool : kitB "list" "bool" = some false := by decide +kernel
theorem kb_list_str : kitB "list" "str" = some false := by decide +kernel
theorem kb_list_dict : kitB "list" "dict" = some false := by decide +kernel
theorem kb_list_list : kitB "list" "list" = some true := by decide +kernel
theorem kb_list_tuple : kitB "list" "tuple" = some false := by decide +kernel
theorem kb_dict_int : kitB "dict" "int" = some false := by decide +kernel
theorem kb_dict_bool : kitB "dict" "bool" = some false := by decide +kernel
theorem kb_dict_str : kitB "dict" "str" = some false := by decide +kernel
theorem kb_dict_dict : kitB "dict" "dict" = some true := by decide +kernel
theorem kb_dict_list : kitB "dict" "list" = some false := by decide +kernel
theorem kb_dict_tuple : kitB "dict" "tuple" = some false := by decide +kernel
theorem i_isi {K : PySem.W.Frag} {H : Hp} {Q : VK} {x : V} {t n : String} {b : Bool} (ty : TyX K H x (.type t)) (e : kitB t n = some b) (q : Q (.bl b) H) : rIsi K [x, .ty n] H Q := ⟨x, .ty n, .type t, .type n, b, rfl, .ty n, ty, kit_ty e, q⟩
end Me
set_option maxHeartbeats 8000000
namespace Me
open PySem L2
abbrev PP : Program := PySem.Challenge.rw_roomleft_k05_equality_of_kinds.prog
structure DA where
  f : Addr
  fd : FuncData
/-- a def of the text -/
structure Df (K : PySem.W.Frag) (mg : Str → Option Value) (x : Str) (st : Stmt) (ps : List Str) (d : DA) : Prop where
  fn : FunD K x x (defArgs st) (defBody st) (defScope st) [] [] d.f d.fd
  mg : mg x = some (.ref d.f)
  b : Binds K d.fd ps []
theorem Df.kp {K : PySem.W.Frag} {mg : Str → Option Value} {x : Str} {st : Stmt} {ps : List Str} {d : DA} (h : Df K mg x st ps d) : PySem.W.keepIn K (.ref d.f) = true := h.fn.kp
theorem ok0 {P : Program} {w : World} {K : PySem.W.Frag} {mg : Str → Option Value} {base : Heap} {x qual : Str} {params : Arguments} {body : List Stmt} {scope : Scope} {dv : List V} {f : Addr} {fd : FuncData} {N ps : List Str} {k : Nat} {sp : Sp} (F : FunD K x qual params body scope dv [] f fd) (S : FnScope N ps scope) (len : ∀ vs H Q E, sp vs H Q E → vs.length = ps.length)
    (go : ∀ (cdv : Value) (A : Around) (outer : List Env) (s : Shared) (H : Hp) (vs : List V) (Q : VK) (E : XK), Room k (A.deeper (PyProof.Rows.envOfC qual scope s.heap.objs.size f cdv)) → sp vs H Q E →
      ∃ t, PSs (cxOf CX0 P w K mg base N qual scope f cdv A outer s H E).nox body t ∧ t { nx := fun _ H' => Q .non H', rt := Q } (start N vs) H) : FnOk P w K mg base CX0 (k + 1) f fd ps sp := by
  refine F.ok S len fun cdv A outer s H vs Q E hr h => ?_
  obtain ⟨t, h1, q⟩ := go cdv A outer s H vs Q E hr h
  exact ⟨t, h1.nox, q⟩
theorem Df.ok {P : Program} {w : World} {K : PySem.W.Frag} {mg : Str → Option Value} {base : Heap} {x : Str} {st : Stmt} {ps ps' N : List Str} {d : DA} {k : Nat} {sp : Sp} (D : Df K mg x st ps' d) (S : FnScope N ps (defScope st)) (len : ∀ vs H Q E, sp vs H Q E → vs.length = ps.length)
    (go : ∀ (cdv : Value) (A : Around) (outer : List Env) (s : Shared) (H : Hp) (vs : List V) (Q : VK) (E : XK), Room k (A.deeper (PyProof.Rows.envOfC x (defScope st) s.heap.objs.size d.f cdv)) → sp vs H Q E →
      ∃ t, PSs (cxOf CX0 P w K mg base N x (defScope st) d.f cdv A outer s H E).nox (defBody st) t ∧ t { nx := fun _ H' => Q .non H', rt := Q } (start N vs) H) : FnOk P w K mg base CX0 (k + 1) d.f d.fd ps sp := ok0 D.fn S len go
theorem Df.okX {P : Program} {w : World} {K : PySem.W.Frag} {mg : Str → Option Value} {base : Heap} {x : Str} {st : Stmt} {ps ps' N : List Str} {d : DA} {k : Nat} {sp : Sp} (D : Df K mg x st ps' d) (S : FnScope N ps (defScope st)) (len : ∀ vs H Q E, sp vs H Q E → vs.length = ps.length)
    (go : ∀ (cdv : Value) (A : Around) (outer : List Env) (s : Shared) (H : Hp) (vs : List V) (Q : VK) (E : XK), Room k (A.deeper (PyProof.Rows.envOfC x (defScope st) s.heap.objs.size d.f cdv)) → sp vs H Q E →
      ∃ t, PSs (cxOf (L2.CX P w) P w K mg base N x (defScope st) d.f cdv A outer s H E) (defBody st) t ∧ t { nx := fun _ H' => Q .non H', rt := Q } (start N vs) H) : FnOk P w K mg base (L2.CX P w) (k + 1) d.f d.fd ps sp := D.fn.ok S len go
/-! ### BadKind(part) -/
def spI1 (C : Addr) (f : Str) : Sp := fun vs H Q _ => ∃ (a : Addr) (y : V), vs = [.ref a, y] ∧ H a = some (exo a C none) ∧ ∀ dx, H dx = none → dx ≠ a → Q .non (upd (upd H dx (exd dx [(f, y)])) a (exo a C (some dx)))
structure BadT (K : PySem.W.Frag) (mg : Str → Option Value) (C : Addr) (I : DA) : Prop where
  ox : OexC K C
  gl : mg "BadKind" = some (.ref C)
  xf : XfC K C
  ex : PySem.W.exmOne K (.ref C) (.ref C) = some true
  no : PySem.W.findIn K (.ref C) "part" = some none
  ini : PySem.W.findIn K (.ref C) "__init__" = some (some (.ref I.f))
  ti : PySem.W.typeIn K (.ref I.f) = some (.type "function")
  fn : FunD K "__init__" "BadKind.__init__" (defArgs (inClass (top 8) 0)) (defBody (inClass (top 8) 0)) (defScope (inClass (top 8) 0)) [] [] I.f I.fd
  b : Binds K I.fd ["self", "part"] []
theorem PS.imp {X : Cx} {st : Stmt} {t t' : TS} (h : PS X st t) (i : ∀ D σ H, t' D σ H → t D σ H) : PS X st t' := ⟨fun pins s σ H D I q => h.run pins s σ H D I (i D σ H q)⟩
theorem ne_none {H : Hp} {a b : Addr} {o : HO} (h' : H a = none) (h : H b = some o) : b ≠ a := ne_of_none h h'
theorem heap1 {H : Hp} {a dx : Addr} {o1 o2 o3 o : HO} (ha : H a = none) (hd : dx ≠ a) : upd (del (upd (upd (upd H a o1) dx o2) a o3) a) dx o = upd H dx o := by
  funext b
  by_cases h1 : b = dx
  · subst h1; rw [upd_same, upd_same]
  · rw [upd_ne h1, upd_ne h1]
    by_cases h2 : b = a
    · subst h2; rw [del_same, ha]
    · rw [del_ne h2, upd_ne h2, upd_ne h1, upd_ne h2]
/-- BadKind(z) is on its way -/
def badW (C : Addr) (z : Str) (W : Value → Option Addr → Hp → Prop) (H : Hp) : Prop := ∀ d, H d = none → W (.ref C) (some d) (upd H d (.xd [("part", .str z)]))
def tBad (C : Addr) (z : Str) (W : WX) : TS := fun _ σ H => badW C z (fun c d H' => W c d σ H') H
section
variable {P : Program} {w : World} {K : PySem.W.Frag} {mg : Str → Option Value} {base : Heap} {C : Addr} {I : DA}
theorem ok_bad (B : BadT K mg C I) : FnOk P w K mg base CX0 1 I.f I.fd ["self", "part"] (spI1 C "part") := by
  refine ok0 B.fn (⟨rfl, rfl, rfl, by decide +kernel, rfl, by decide +kernel, by decide +kernel⟩ : FnScope ["self", "part"] ["self", "part"] _) (fun vs H Q E h => ?_) (fun cdv A outer s H vs Q E' hr h => ?_)
  · obtain ⟨a, y, rfl, _⟩ := h
    rfl
  · obtain ⟨a, y, rfl, e, k⟩ := h
    refine ⟨_, pss_one (ps_ost (pv 0) (pv 1)), ?_⟩
    exact ⟨_, rfl, _, rfl, a, C, rfl, B.ox, B.no, .inl ⟨e, fun dx n ne => k dx n ne⟩⟩
theorem ps_bad {X : Cx} {z : Str} {W : WX} {p p2 pos pos2 : Pos} {j : Nat} (B : BadT X.K X.mg C I) (hc : X.calm = true) (hr : Room 2 X.A) (tk : Takes X W) (hg : Gl X "BadKind" := by rfl)
    (hs : starEach [.Constant (.str z) j p2] X.env = [(false, eval (.Constant (.str z) j p2) X.env)] := by rfl) :
    PS X (.Raise (some (.Call (.Name "BadKind" p) [.Constant (.str z) j p2] [] pos)) none pos2) (tBad C z W) := by
  refine PS.imp (ps_raise hc tk (pmk_oex (dvs := []) B.ox B.ini B.ti (ok_bad B) hr B.b .nil pass0 hg B.gl (pa_cons pe_str pa_nil hs) (by decide) hs rfl)) fun D σ H h => ?_
  refine ⟨by show 1 ≤ 1000; decide, fun a na => ⟨a, .str z, rfl, upd_same, fun dx hd ne => ⟨rfl, dx, [("part", .str z)], ?_, ?_, ?_, ?_⟩⟩⟩
  · exact upd_same
  · rw [upd_ne ne, upd_same]
  · rw [upd_ne ne] at hd; exact hd
  · rw [heap1 na ne]
    rw [upd_ne ne] at hd
    exact h dx hd
end
/-! ### the classes of kinds -/
def kn (i : Nat) : Str := (kcs.getD i ("", [], false)).1
structure Kc (K : PySem.W.Frag) (mg : Str → Option Value) (C : Nat → Addr) (E : Nat → DA) (i : Nat) : Prop where
  gl : mg (kn i) = some (.ref (C i))
  cl : Cls K (C i)
  mks : PySem.W.makesIn K (C i) = true
  kp : PySem.W.keepIn K (.ref (C i)) = true
  cc : PySem.W.findIn K (.ref (C i)) "__class__" = some (some (.builtin "object.__class__"))
  cm : PySem.W.mroIn K (C i) (.type "object") = some true
  no : ∀ f ∈ allK, NoAttr K (C i) f
  eqA : PySem.W.findIn K (.ref (C i)) "__eq__" = some (some (.ref (E i).f))
  eqF : PySem.W.isFn K (.ref (E i).f) = true
  kt : ∀ j, j < 11 → PySem.W.kitOne K (.ref (C i)) (.ref (C j)) = some (decide (i = j))
  kT : ∀ t ∈ tys, PySem.W.kitOne K (.ref (C i)) (.type t) = some false
  tK : ∀ t ∈ tys, PySem.W.kitOne K (.type t) (.ref (C i)) = some false
  nf : ∀ j, j < 11 → PySem.W.notFirst K (C i) (.ref (C j)) = true
  nn : PySem.W.notFirst K (C i) (.type "NoneType") = true
  sn : PySem.W.subIn K (.ref (C i)) (.type "NoneType") = some false
  sp : PySem.W.specialIn K (.builtin "object.__class__") "__get__" = some (some (.builtin "getset_descriptor.__get__"))
  tk : PySem.W.takesIn K (.builtin "object.__class__") = some true
theorem Kc.ty {K : PySem.W.Frag} {mg : Str → Option Value} {C : Nat → Addr} {E : Nat → DA} {i : Nat} (k : Kc K mg C E i) {H : Hp} {a dx : Addr} {fs : List (Str × V)} (h : H a = some (.ins (C i) dx fs)) : TyX K H (.ref a) (.ref (C i)) := .base (.ins h k.cl k.cc k.sp k.tk k.cm)
/-- a call of a class whose __init__ may raise, in a try's body or a def that lets the error out: the wish at all slots -/
theorem passW {X : Cx} {W : WX} (tk : Takes X W) : Passes (L2.CX X.prog X.w) X (fun cls d H => ∀ σ, σ.length = X.N.length → W cls d σ H) := by
  intro pins σ H s e s' I c
  exact tk e s' (XE.of_call I (fun _ _ _ h => h σ I.len) c)
theorem passF {X : Cx} : Passes (L2.CX X.prog X.w) X E0 := passL
/-- C(), no __init__ of its own -/
def tMk0 (C : Addr) : TE := fun _ H Q => ∀ x dx, H x = none → H dx = none → dx ≠ x → Q (.ref x) (upd (upd H dx (.own x)) x (.ins C dx []))
theorem pe_mk0 {X : Cx} {C : Addr} {x : Str} {p pos : Pos} (mk : PySem.W.makesIn X.K C = true) (ini : PySem.W.findIn X.K (.ref C) "__init__" = some (some (.builtin "object.__init__"))) (kp : PySem.W.keepIn X.K (.ref C) = true) (hm : X.mg x = some (.ref C)) (hg : Gl X x := by rfl)
    (hdb : (x == ("__debug__" : Str)) = false := by decide) : PE X (.Call (.Name x p) [] [] pos) (tMk0 C) := by
  refine ⟨fun pins s σ H Q I h => ?_⟩
  refine wpAny_Call_Name_kw (ld_glob I hg hm (PySem.W.callWith_K0 I.kIn kp ?_) hdb)
  show wpAny _ _ (call (.ref C) []) _ _ _
  have hq := h (s.heap.objs.size + 1) s.heap.objs.size (I.hok.fresh (Nat.le_succ _)) (I.hok.fresh (Nat.le_refl _)) (Nat.ne_of_lt (Nat.lt_succ_self _))
  have I2 := Inv.made (C := C) I
  have Y := PySem.W.makes_of (M := model X.prog X.w) I.kIn mk
  have old : ∀ b o, s.heap.get? b = some o → ((s.heap.push PySem.W.emptyDict).push (PySem.W.instObj C s.heap.objs.size)).get? b = some o := fun b o e => Heap.get?_push_of_some _ (Heap.get?_push_of_some _ e)
  have here : ((s.heap.push PySem.W.emptyDict).push (PySem.W.instObj C s.heap.objs.size)).get? (s.heap.objs.size + 1) = some (PySem.W.instObj C s.heap.objs.size) := by
    have z := Heap.get?_push_size (s.heap.push PySem.W.emptyDict) (o := PySem.W.instObj C s.heap.objs.size) rfl
    rwa [Heap.size_push] at z
  refine wpAny_call (make_map0 I.kIn mk ini (fun self => PySem.W.Looks.of_pure (PySem.W.oi_bind self)) ?_)
  have t1 : PySem.W.Looks (model X.prog X.w) ((s.heap.push PySem.W.emptyDict).push (PySem.W.instObj C s.heap.objs.size)) (isInstance (.ref (s.heap.objs.size + 1)) (.type "object")) true :=
    ((PySem.W.Looks.ld here).andThen .now).andThen (Y.top.keeps old)
  refine codeAny_call_builtin PySem.W.oi_plain PySem.W.entry_oi (@PySem.W.check_slot (model X.prog X.w) _ _ _ "object.__init__" "object" "__init__" (.ref (s.heap.objs.size + 1)) [] [] _ PySem.W.oi_kind PySem.W.oi_split t1 (PySem.W.oi_args _) ?_)
  rw [PySem.W.oi_run]
  exact wpAny_pure ⟨rfl, ⟨V.ref (s.heap.objs.size + 1), _, I2, rfl, hq⟩⟩
end Me
local macro_rules | `(tactic| walk_at "kb") => `(tactic| first | with_reducible exact Me.kb_NoneType_int | with_reducible exact Me.kb_NoneType_bool | with_reducible exact Me.kb_NoneType_str | with_reducible exact Me.kb_NoneType_dict | with_reducible exact Me.kb_NoneType_list | with_reducible exact Me.kb_NoneType_tuple | with_reducible exact Me.kb_bool_int | with_reducible exact Me.kb_bool_bool | with_reducible exact Me.kb_bool_str | with_reducible exact Me.kb_bool_dict | with_reducible exact Me.kb_bool_list | with_reducible exact Me.kb_bool_tuple | with_reducible exact Me.kb_int_int | with_reducible exact Me.kb_int_bool | with_reducible exact Me.kb_int_str | with_reducible exact Me.kb_int_dict | with_reducible exact Me.kb_int_list | with_reducible exact Me.kb_int_tuple | with_reducible exact Me.kb_str_int | with_reducible exact Me.kb_str_bool | with_reducible exact Me.kb_str_str | with_reducible exact Me.kb_str_dict | with_reducible exact Me.kb_str_list | with_reducible exact Me.kb_str_tuple | with_reducible exact Me.kb_tuple_int | with_reducible exact Me.kb_tuple_bool | with_reducible exact Me.kb_tuple_str | with_reducible exact Me.kb_tuple_dict | with_reducible exact Me.kb_tuple_list | with_reducible exact Me.kb_tuple_tuple | with_reducible exact Me.kb_list_int | with_reducible exact Me.kb_list_bool | with_reducible exact Me.kb_list_str | with_reducible exact Me.kb_list_dict | with_reducible exact Me.kb_list_list | with_reducible exact Me.kb_list_tuple | with_reducible exact Me.kb_dict_int | with_reducible exact Me.kb_dict_bool | with_reducible exact Me.kb_dict_str | with_reducible exact Me.kb_dict_dict | with_reducible exact Me.kb_dict_list | with_reducible exact Me.kb_dict_tuple)
local macro_rules | `(tactic| walk_at "hp") => `(tactic| first | with_reducible assumption | with_reducible exact L2.upd_same | ((with_reducible refine' Me.upd_get ?n ?h); (case h => walk_at "hp"); (case n => walk_at "ne")) | ((with_reducible refine' Me.Went.get ?w ?n ?h); (case w => with_reducible assumption); (case h => walk_at "hp"); (case n => walk_at "ne")))
local macro_rules | `(tactic| walk_at "ne") => `(tactic| first | with_reducible assumption | ((with_reducible refine Ne.symm ?_); with_reducible assumption) | ((with_reducible refine' Me.ne_none ?n ?h); (case n => with_reducible assumption); (case h => walk_at "hp")) | ((with_reducible refine' Ne.symm (Me.ne_none ?n ?h)); (case n => with_reducible assumption); (case h => walk_at "hp")))
local macro_rules | `(tactic| walk_at "side") => `(tactic| first | rfl | assumption | omega | decide | (constructor <;> first | rfl | assumption | omega | decide) | (refine ⟨?_, ?_, ?_⟩ <;> first | omega | decide) | (refine Or.inl ⟨?_, ?_⟩ <;> first | omega | decide) | (refine Or.inr ⟨?_, ?_⟩ <;> first | omega | decide))
local macro_rules | `(tactic| walk_at "go1") => `(tactic| first
  | with_reducible refine Me.i_seq ?_ | with_reducible refine Me.i_var rfl ?_ | with_reducible refine Me.i_c ?_ | with_reducible refine Me.i_op ?_ | with_reducible refine Me.i_cons ?_ | with_reducible refine Me.i_nil ?_
  | with_reducible refine Me.i_cb ?_ | with_reducible refine Me.i_call ?_ | with_reducible refine Me.i_asg ?_ | with_reducible refine Me.i_gname ?_ | with_reducible refine Me.i_gsub ?_ | with_reducible refine Me.i_ret ?_ | with_reducible refine Me.i_retN ?_
  | with_reducible refine Me.i_drop ?_ | with_reducible refine Me.i_ifS ?_ | with_reducible refine Me.i_if ?_ | with_reducible refine Me.i_and ?_ | with_reducible refine Me.i_or ?_ | with_reducible refine Me.i_not ?_ | with_reducible refine Me.i_test ?_ | with_reducible refine Me.i_tB ?_
  | with_reducible refine Me.i_andV ?_ | with_reducible refine Me.i_orV ?_ | with_reducible refine Me.i_notV ?_ | with_reducible refine Me.i_next ?_ | with_reducible refine Me.i_un ?_ | with_reducible refine Me.i_lst ?_ | with_reducible refine Me.i_tup ?_ | with_reducible refine Me.i_dnew (fun _ _ => ?_)
  | with_reducible refine Me.i_rI0 ?_ | ((with_reducible refine Me.i_rI ?_ ?_); (walk_at "side")) | with_reducible refine Me.i_rU ?_ | with_reducible refine Me.i_rEq rfl ?_ | with_reducible refine Me.i_rNe rfl ?_
  | ((with_reducible refine' Me.i_ixl ?h ?e ?q); (case h => walk_at "hp"); (case e => rfl)) | ((with_reducible refine' Me.i_ixt ?h ?e ?q); (case h => walk_at "hp"); (case e => rfl)) | ((with_reducible refine' Me.i_setl ?h ?e ?q); (case h => walk_at "hp"); (case e => rfl))
  | with_reducible refine Me.i_bl ?_
  | with_reducible refine L2.iteT ?_ | with_reducible refine L2.iteF ?_
  | ((with_reducible refine' ⟨_, _, rfl, Or.inl (L2.SqL.of ?h), ?q⟩); (case h => walk_at "hp"))
  | ((with_reducible refine' ⟨_, _, rfl, Or.inr (L2.SqT.of ?h), ?q⟩); (case h => walk_at "hp"))
  | ((with_reducible refine' Me.i_isi ?t ?e ?q); (case t => walk_at "ty"); (case e => walk_at "kb"))
  | (with_reducible refine Or.inl ⟨_, rfl, ?_⟩)
  | ((with_reducible refine And.intro (a := List.length _ ≤ PySem.sizeLine) ?s (fun _ _ => ?q)); (case s => (simp only [List.length_cons, List.length_nil]; decide))))
local macro_rules | `(tactic| walk_at "ty") => `(tactic| first | exact L2.TyX.base L2.TyOf.non | exact L2.TyX.base (L2.TyOf.bl _) | exact L2.TyX.base (L2.TyOf.int _) | exact L2.TyX.base (L2.TyOf.str _) | ((refine' L2.TyX.base (L2.TyOf.tup ?h)); (case h => walk_at "hp")) | ((refine' L2.TyX.base (L2.TyOf.lst ?h)); (case h => walk_at "hp")) | ((refine' L2.TyX.base (L2.TyOf.dK ?h)); (case h => walk_at "hp")))
local macro_rules | `(tactic| walk_at "go") => `(tactic| repeat (walk_at "go1"))
set_option maxHeartbeats 8000000
namespace Me
open PySem L2


structure Ad where
  C : Nat → Addr
  I : Nat → DA
  E : Nat → DA
  bad : Addr
  badI : DA
  is_int : DA
  is_int_within : DA
  is_name : DA
  is_bits : DA
  is_word : DA
  is_simple : DA
  check_word_and_name : DA
  are_ways : DA
  are_parts : DA
  have_unlike_names : DA
  are_apart : DA
  _law_is_int : DA
  _law_same_dict : DA
  _law_same : DA
  _law_start : DA
  _law_pull : DA
  _law_big : DA
  _law_name : DA
  _law_bits : DA
  _law_words : DA
  _law_number : DA
  _law_flat : DA
  _law_simple : DA
  _law_kind : DA
  _law_way : DA
  _law_place : DA
  _law_any_inner : DA
  _law_any : DA
  _law_changed_simple : DA
  _law_changed_inner : DA
  _law_changed : DA
  law : DA
structure Txt (K : PySem.W.Frag) (mg : Str → Option Value) (a : Ad) : Prop where
  kc : ∀ i, i < 11 → Kc K mg a.C a.E i
  bad : BadT K mg a.bad a.badI
  ini0 : PySem.W.findIn K (.ref (a.C 0)) "__init__" = some (some (.builtin "object.__init__"))
  isinstance : mg "isinstance" = none
  int : mg "int" = none
  bool : mg "bool" = none
  str : mg "str" = none
  dict : mg "dict" = none
  list : mg "list" = none
  tuple : mg "tuple" = none
  len : mg "len" = none
  range : mg "range" = none
  all : mg "all" = none
  any : mg "any" = none
  enumerate : mg "enumerate" = none
  min : mg "min" = none
  is_int : Df K mg "is_int" (top 1) ["thing"] a.is_int
  is_int_within : Df K mg "is_int_within" (top 2) ["thing", "least", "most"] a.is_int_within
  is_name : Df K mg "is_name" (top 3) ["thing"] a.is_name
  is_bits : Df K mg "is_bits" (top 4) ["thing"] a.is_bits
  is_word : Df K mg "is_word" (top 5) ["thing"] a.is_word
  is_simple : Df K mg "is_simple" (top 15) ["thing"] a.is_simple
  check_word_and_name : Df K mg "check_word_and_name" (top 22) ["word", "name"] a.check_word_and_name
  are_ways : Df K mg "are_ways" (top 23) ["thing"] a.are_ways
  are_parts : Df K mg "are_parts" (top 24) ["thing"] a.are_parts
  have_unlike_names : Df K mg "have_unlike_names" (top 25) ["things"] a.have_unlike_names
  are_apart : Df K mg "are_apart" (top 26) ["words"] a.are_apart
  _law_is_int : Df K mg "_law_is_int" (top 28) ["_law_told"] a._law_is_int
  _law_same_dict : Df K mg "_law_same_dict" (top 29) ["_law_told", "_law_due"] a._law_same_dict
  _law_same : Df K mg "_law_same" (top 30) ["_law_told", "_law_due"] a._law_same
  _law_start : Df K mg "_law_start" (top 31) ["_law_script"] a._law_start
  _law_pull : Df K mg "_law_pull" (top 32) ["_law_state", "_law_many"] a._law_pull
  _law_big : Df K mg "_law_big" (top 33) ["_law_state", "_law_many"] a._law_big
  _law_name : Df K mg "_law_name" (top 34) ["_law_state", "_law_taken"] a._law_name
  _law_bits : Df K mg "_law_bits" (top 35) ["_law_state", "_law_many"] a._law_bits
  _law_words : Df K mg "_law_words" (top 36) ["_law_state", "_law_many"] a._law_words
  _law_number : Df K mg "_law_number" (top 37) ["_law_state", "_law_scale"] a._law_number
  _law_flat : Df K mg "_law_flat" (top 38) ["_law_state", "_law_names", "_law_scale"] a._law_flat
  _law_simple : Df K mg "_law_simple" (top 39) ["_law_state", "_law_names", "_law_scale"] a._law_simple
  _law_kind : Df K mg "_law_kind" (top 40) ["_law_term"] a._law_kind
  _law_way : Df K mg "_law_way" (top 41) ["_law_way_here"] a._law_way
  _law_place : Df K mg "_law_place" (top 42) ["_law_part"] a._law_place
  _law_any_inner : Df K mg "_law_any_inner" (top 43) ["_law_state", "_law_turn"] a._law_any_inner
  _law_any : Df K mg "_law_any" (top 44) ["_law_state", "_law_turn"] a._law_any
  _law_changed_simple : Df K mg "_law_changed_simple" (top 45) ["_law_state", "_law_term"] a._law_changed_simple
  _law_changed_inner : Df K mg "_law_changed_inner" (top 46) ["_law_state", "_law_term"] a._law_changed_inner
  _law_changed : Df K mg "_law_changed" (top 47) ["_law_state", "_law_term"] a._law_changed
  law : Df K mg "law" (top 48) ["_law_script"] a.law
  E0 : FunD K "__eq__" "Nothing.__eq__" (defArgs (inClass (top 10) 0)) (defBody (inClass (top 10) 0)) (defScope (inClass (top 10) 0)) [] [] (a.E 0).f (a.E 0).fd
  Eb0 : Binds K (a.E 0).fd ["self", "other"] []
  I1 : FunD K "__init__" "Number.__init__" (defArgs (inClass (top 11) 0)) (defBody (inClass (top 11) 0)) (defScope (inClass (top 11) 0)) [.non] [] (a.I 1).f (a.I 1).fd
  Ib1 : Binds K (a.I 1).fd ["self", "low", "high", "width"] []
  Id1 : Binds K (a.I 1).fd ["self", "low", "high", "width"] [.none]
  mk1 : Mk K (a.C 1) (a.I 1).f
  E1 : FunD K "__eq__" "Number.__eq__" (defArgs (inClass (top 11) 1)) (defBody (inClass (top 11) 1)) (defScope (inClass (top 11) 1)) [] [] (a.E 1).f (a.E 1).fd
  Eb1 : Binds K (a.E 1).fd ["self", "other"] []
  I2 : FunD K "__init__" "Bits.__init__" (defArgs (inClass (top 12) 0)) (defBody (inClass (top 12) 0)) (defScope (inClass (top 12) 0)) [] [] (a.I 2).f (a.I 2).fd
  Ib2 : Binds K (a.I 2).fd ["self", "many"] []
  mk2 : Mk K (a.C 2) (a.I 2).f
  E2 : FunD K "__eq__" "Bits.__eq__" (defArgs (inClass (top 12) 1)) (defBody (inClass (top 12) 1)) (defScope (inClass (top 12) 1)) [] [] (a.E 2).f (a.E 2).fd
  Eb2 : Binds K (a.E 2).fd ["self", "other"] []
  I3 : FunD K "__init__" "Call.__init__" (defArgs (inClass (top 13) 0)) (defBody (inClass (top 13) 0)) (defScope (inClass (top 13) 0)) [] [] (a.I 3).f (a.I 3).fd
  Ib3 : Binds K (a.I 3).fd ["self", "name"] []
  mk3 : Mk K (a.C 3) (a.I 3).f
  E3 : FunD K "__eq__" "Call.__eq__" (defArgs (inClass (top 13) 1)) (defBody (inClass (top 13) 1)) (defScope (inClass (top 13) 1)) [] [] (a.E 3).f (a.E 3).fd
  Eb3 : Binds K (a.E 3).fd ["self", "other"] []
  I4 : FunD K "__init__" "Items.__init__" (defArgs (inClass (top 14) 0)) (defBody (inClass (top 14) 0)) (defScope (inClass (top 14) 0)) [.non] [] (a.I 4).f (a.I 4).fd
  Ib4 : Binds K (a.I 4).fd ["self", "item", "width"] []
  Id4 : Binds K (a.I 4).fd ["self", "item", "width"] [.none]
  mk4 : Mk K (a.C 4) (a.I 4).f
  E4 : FunD K "__eq__" "Items.__eq__" (defArgs (inClass (top 14) 1)) (defBody (inClass (top 14) 1)) (defScope (inClass (top 14) 1)) [] [] (a.E 4).f (a.E 4).fd
  Eb4 : Binds K (a.E 4).fd ["self", "other"] []
  I5 : FunD K "__init__" "Way.__init__" (defArgs (inClass (top 16) 0)) (defBody (inClass (top 16) 0)) (defScope (inClass (top 16) 0)) [] [] (a.I 5).f (a.I 5).fd
  Ib5 : Binds K (a.I 5).fd ["self", "word", "name", "kind"] []
  mk5 : Mk K (a.C 5) (a.I 5).f
  E5 : FunD K "__eq__" "Way.__eq__" (defArgs (inClass (top 16) 1)) (defBody (inClass (top 16) 1)) (defScope (inClass (top 16) 1)) [] [] (a.E 5).f (a.E 5).fd
  Eb5 : Binds K (a.E 5).fd ["self", "other"] []
  I6 : FunD K "__init__" "Door.__init__" (defArgs (inClass (top 17) 0)) (defBody (inClass (top 17) 0)) (defScope (inClass (top 17) 0)) [] [] (a.I 6).f (a.I 6).fd
  Ib6 : Binds K (a.I 6).fd ["self", "word", "name", "kind"] []
  mk6 : Mk K (a.C 6) (a.I 6).f
  E6 : FunD K "__eq__" "Door.__eq__" (defArgs (inClass (top 17) 1)) (defBody (inClass (top 17) 1)) (defScope (inClass (top 17) 1)) [] [] (a.E 6).f (a.E 6).fd
  Eb6 : Binds K (a.E 6).fd ["self", "other"] []
  I7 : FunD K "__init__" "Part.__init__" (defArgs (inClass (top 18) 0)) (defBody (inClass (top 18) 0)) (defScope (inClass (top 18) 0)) [] [] (a.I 7).f (a.I 7).fd
  Ib7 : Binds K (a.I 7).fd ["self", "name", "kind"] []
  mk7 : Mk K (a.C 7) (a.I 7).f
  E7 : FunD K "__eq__" "Part.__eq__" (defArgs (inClass (top 18) 1)) (defBody (inClass (top 18) 1)) (defScope (inClass (top 18) 1)) [] [] (a.E 7).f (a.E 7).fd
  Eb7 : Binds K (a.E 7).fd ["self", "other"] []
  I8 : FunD K "__init__" "Room.__init__" (defArgs (inClass (top 19) 0)) (defBody (inClass (top 19) 0)) (defScope (inClass (top 19) 0)) [] [] (a.I 8).f (a.I 8).fd
  Ib8 : Binds K (a.I 8).fd ["self", "word", "name", "kind"] []
  mk8 : Mk K (a.C 8) (a.I 8).f
  E8 : FunD K "__eq__" "Room.__eq__" (defArgs (inClass (top 19) 1)) (defBody (inClass (top 19) 1)) (defScope (inClass (top 19) 1)) [] [] (a.E 8).f (a.E 8).fd
  Eb8 : Binds K (a.E 8).fd ["self", "other"] []
  I9 : FunD K "__init__" "Choice.__init__" (defArgs (inClass (top 20) 0)) (defBody (inClass (top 20) 0)) (defScope (inClass (top 20) 0)) [] [] (a.I 9).f (a.I 9).fd
  Ib9 : Binds K (a.I 9).fd ["self", "ways"] []
  mk9 : Mk K (a.C 9) (a.I 9).f
  E9 : FunD K "__eq__" "Choice.__eq__" (defArgs (inClass (top 20) 1)) (defBody (inClass (top 20) 1)) (defScope (inClass (top 20) 1)) [] [] (a.E 9).f (a.E 9).fd
  Eb9 : Binds K (a.E 9).fd ["self", "other"] []
  I10 : FunD K "__init__" "Row.__init__" (defArgs (inClass (top 21) 0)) (defBody (inClass (top 21) 0)) (defScope (inClass (top 21) 0)) [] [] (a.I 10).f (a.I 10).fd
  Ib10 : Binds K (a.I 10).fd ["self", "parts"] []
  mk10 : Mk K (a.C 10) (a.I 10).f
  E10 : FunD K "__eq__" "Row.__eq__" (defArgs (inClass (top 21) 1)) (defBody (inClass (top 21) 1)) (defScope (inClass (top 21) 1)) [] [] (a.E 10).f (a.E 10).fd
  Eb10 : Binds K (a.E 10).fd ["self", "other"] []

/-! ### things -/
inductive Th (H : Hp) : V → Prop where
  | non : Th H .non
  | bl (b : Bool) : Th H (.bl b)
  | int (i : Int) : Th H (.int i)
  | str (x : Str) : Th H (.str x)
  | tup {a : Addr} {xs : List V} (h : H a = some (.tup xs)) : Th H (.ref a)
  | lst {a : Addr} {xs : List V} (h : H a = some (.lst xs)) : Th H (.ref a)
  | dK {a : Addr} {kvs : List (Key × V)} (h : H a = some (.dK kvs)) : Th H (.ref a)
theorem Th.same {H H' : Hp} {v : V} (h : Th H v) (s : Same H H') : Th H' v := by
  cases h with
  | non => exact .non
  | bl b => exact .bl b
  | int i => exact .int i
  | str x => exact .str x
  | tup h => exact .tup (s _ _ h)
  | lst h => exact .lst (s _ _ h)
  | dK h => exact .dK (s _ _ h)
def isI : V → Bool
  | .int _ => true
  | _ => false
def withinV : V → Int → Int → Bool
  | .int i, l, m => decide (l ≤ i) && decide (i ≤ m)
  | _, _, _ => false
theorem i_yes {c : Bool} {A B : Prop} (h : c = true) (q : A) : if c = true then A else B := by rw [if_pos h]; exact q
theorem i_no {c : Bool} {A B : Prop} (h : c = false) (q : B) : if c = true then A else B := by rw [h, if_neg Bool.false_ne_true]; exact q
section
variable {P : Program} {w : World} {K : PySem.W.Frag} {mg : Str → Option Value} {base : Heap} {a : Ad}
def spIsInt : Sp := fun vs H Q _ => ∃ x, vs = [x] ∧ Th H x ∧ Q (.bl (isI x)) H
theorem ok_is_int (T : Txt K mg a) : FnOk P w K mg base CX0 1 a.is_int.f a.is_int.fd ["thing"] spIsInt := by
  have sc : FnScope ["thing"] ["thing"] (defScope (top 1)) := ⟨rfl, rfl, rfl, by decide +kernel, rfl, by decide +kernel, by decide +kernel⟩
  refine T.is_int.ok sc (fun vs H Q E h => ?_) (fun cdv A outer s H vs Q E hr h => ?_)
  · obtain ⟨x, rfl, _⟩ := h; rfl
  · obtain ⟨x, rfl, hx, k⟩ := h
    refine ⟨_, (pss_one (ps_ret (pe_and (pe_callB call_isi (by rfl) T.isinstance (by decide +kernel) (pa_cons (pv 0) (pa_cons (pe_bltn (v := .ty "int") (by rfl) T.int (by decide +kernel) rfl) pa_nil))) (pe_one (pe_not (pe_callB call_isi (by rfl) T.isinstance (by decide +kernel) (pa_cons (pv 0) (pa_cons (pe_bltn (v := .ty "bool") (by rfl) T.bool (by decide +kernel) rfl) pa_nil)))))))), ?_⟩
    cases hx <;> (walk_at "go"; exact k)
theorem ok_law_is_int (T : Txt K mg a) : FnOk P w K mg base CX0 1 a._law_is_int.f a._law_is_int.fd ["_law_told"] spIsInt := by
  have sc : FnScope ["_law_told"] ["_law_told"] (defScope (top 28)) := ⟨rfl, rfl, rfl, by decide +kernel, rfl, by decide +kernel, by decide +kernel⟩
  refine T._law_is_int.ok sc (fun vs H Q E h => ?_) (fun cdv A outer s H vs Q E hr h => ?_)
  · obtain ⟨x, rfl, _⟩ := h; rfl
  · obtain ⟨x, rfl, hx, k⟩ := h
    refine ⟨_, (pss_one (ps_ret (pe_and (pe_callB call_isi (by rfl) T.isinstance (by decide +kernel) (pa_cons (pv 0) (pa_cons (pe_bltn (v := .ty "int") (by rfl) T.int (by decide +kernel) rfl) pa_nil))) (pe_one (pe_not (pe_callB call_isi (by rfl) T.isinstance (by decide +kernel) (pa_cons (pv 0) (pa_cons (pe_bltn (v := .ty "bool") (by rfl) T.bool (by decide +kernel) rfl) pa_nil)))))))), ?_⟩
    cases hx <;> (walk_at "go"; exact k)
def spWithin : Sp := fun vs H Q _ => ∃ (x : V) (l m : Int), vs = [x, .int l, .int m] ∧ Th H x ∧ Q (.bl (withinV x l m)) H
theorem ok_within (T : Txt K mg a) : FnOk P w K mg base CX0 2 a.is_int_within.f a.is_int_within.fd ["thing", "least", "most"] spWithin := by
  have G_is_int : FnOk P w K mg base CX0 1 a.is_int.f a.is_int.fd ["thing"] spIsInt := ok_is_int T
  have sc : FnScope ["thing", "least", "most"] ["thing", "least", "most"] (defScope (top 2)) := ⟨rfl, rfl, rfl, by decide +kernel, rfl, by decide +kernel, by decide +kernel⟩
  refine T.is_int_within.ok sc (fun vs H Q E h => ?_) (fun cdv A outer s H vs Q E hr h => ?_)
  · obtain ⟨x, l, m, rfl, _⟩ := h; rfl
  · obtain ⟨x, l, m, rfl, hx, k⟩ := h
    refine ⟨_, (pss_one (ps_ret (pe_and (pe_call G_is_int (hr.mono (by first | decide | omega)) rfl T.is_int.mg T.is_int.kp T.is_int.b .nil pass0 (pa_cons (pv 0) pa_nil)) (pe_one (pe_chain op_le op_le (pv 1) (pv 0) (pv 2)))))), ?_⟩
    walk_at "go"
    refine ⟨x, rfl, hx, _, rfl, ?_⟩
    cases hx with
    | int i =>
      refine i_yes rfl ⟨_, rfl, _, rfl, _, _, rfl, rfl, _, rfl, ?_⟩
      refine i_itd (fun h1 => ?_) (fun h1 => ?_)
      · refine ⟨_, rfl, _, _, rfl, rfl, ?_⟩
        have e : withinV (.int i) l m = decide (i ≤ m) := by
          show (decide (l ≤ i) && decide (i ≤ m)) = _
          rw [decide_eq_true h1]; rfl
        rw [e] at k
        exact k
      · have e : withinV (.int i) l m = false := by
          show (decide (l ≤ i) && decide (i ≤ m)) = _
          rw [decide_eq_false h1]; rfl
        rw [e] at k
        exact k
    | _ => exact i_no rfl k
end
end Me
set_option maxHeartbeats 8000000
namespace Me
open PySem L2


/-- a comprehension over the signs of a text -/
theorem lc_its {x : Str} {g : TG} {tt : TT} {te : TE} {vs : List Nat} {σ : L2.St} {H1 : Hp} {D : Addr} {Qd : Hp → Prop} (Pv : Nat → Hp → Prop) (h0 : Pv 0 (upd H1 D (.lst [])))
    (hs : ∀ i c H, x.cps[i]? = some c → Pv i H → g (.str ⟨#[c]⟩) (wipe σ vs) H fun σ2 H2 => wipe σ2 vs = wipe σ vs ∧ tt σ2 H2 fun b H3 =>
      if b = true then te σ2 H3 fun y H4 => ∃ acc, H4 D = some (.lst acc) ∧ acc.length < sizeLine ∧ Pv (i + 1) (upd H4 D (.lst (acc ++ [y]))) else Pv (i + 1) H3) (hd : ∀ H, Pv x.cps.size H → Qd H) :
    ∃ W : Nat → Nat → Hp → Prop, (∃ m, W 0 m (upd H1 D (.lst []))) ∧ ∀ i m H, W i m H →
      ((Its x).stop i H ∧ Qd H) ∨ ((Its x).go i H ∧ ∃ Nx : Hp → Prop, (∀ H', Nx H' → ∃ m', m' < m ∧ W (i + 1) m' H') ∧ ∀ v H', (Its x).yld i H v H' → g v (wipe σ vs) H' fun σ2 H2 => wipe σ2 vs = wipe σ vs ∧ tt σ2 H2 fun b H3 =>
        if b = true then te σ2 H3 fun y H4 => ∃ acc, H4 D = some (.lst acc) ∧ acc.length < sizeLine ∧ Nx (upd H4 D (.lst (acc ++ [y]))) else Nx H3) := by
  refine ⟨fun i m H => m = x.cps.size - i ∧ i ≤ x.cps.size ∧ Pv i H, ⟨x.cps.size, by simp, Nat.zero_le _, h0⟩, ?_⟩
  rintro i m H ⟨rfl, hi, p⟩
  by_cases lt : i < x.cps.size
  · refine .inr ⟨lt, Pv (i + 1), fun H' p' => ⟨x.cps.size - (i + 1), by omega, rfl, lt, p'⟩, fun v H' y => ?_⟩
    obtain ⟨rfl, c, hc, rfl⟩ := y
    exact hs i c _ hc p
  · have e : i = x.cps.size := by omega
    subst e
    exact .inl ⟨Nat.le_refl _, hd H p⟩
def letterB (c : Nat) : Bool := decide (97 ≤ c) && decide (c ≤ 122)
def nameS (z : Str) : Bool := (decide (1 ≤ z.length) && decide (z.length ≤ 8)) && z.cps.toList.all letterB
def nameV : V → Bool
  | .str z => nameS z
  | _ => false
theorem le_a (c : Nat) : (!decide (([c] : List Nat) < [97])) = decide (97 ≤ c) := by
  by_cases h : 97 ≤ c
  · have n : ¬ ([c] : List Nat) < [97] := by simp [List.cons_lt_cons_iff]; omega
    rw [decide_eq_true h, decide_eq_false n]; rfl
  · have n : ([c] : List Nat) < [97] := by simp [List.cons_lt_cons_iff]; omega
    rw [decide_eq_false h, decide_eq_true n]; rfl
theorem le_z (c : Nat) : (!decide (([122] : List Nat) < [c])) = decide (c ≤ 122) := by
  by_cases h : c ≤ 122
  · have n : ¬ ([122] : List Nat) < [c] := by simp [List.cons_lt_cons_iff]; omega
    rw [decide_eq_true h, decide_eq_false n]; rfl
  · have n : ([122] : List Nat) < [c] := by simp [List.cons_lt_cons_iff]; omega
    rw [decide_eq_false h, decide_eq_true n]; rfl
theorem take_cps {z : Str} {i c : Nat} (h : z.cps[i]? = some c) : z.cps.toList.take (i + 1) = z.cps.toList.take i ++ [c] := by
  have h2 : z.cps.toList[i]? = some c := by rw [Array.getElem?_toList]; exact h
  obtain ⟨lt, e⟩ := List.getElem?_eq_some_iff.mp h2
  rw [← e]
  exact (List.take_append_getElem lt).symm
theorem same_new {H H' : Hp} {p : Addr} {o : HO} (h : Same H H') (n : H' p = none) : Same H (upd H' p o) := fun b u e => by
  have e1 := h b u e
  rw [upd_ne (ne_of_none e1 n)]; exact e1
def lets (z : Str) (i : Nat) : List V := (z.cps.toList.take i).map fun c => V.bl (letterB c)
theorem lets_step {H : Hp} {D : Addr} {z : Str} {i c : Nat} {b : Bool} (hz : z.length ≤ 100) (hc : z.cps[i]? = some c) (hb : b = letterB c) :
    ∃ acc, upd H D (.lst (lets z i)) D = some (.lst acc) ∧ acc.length < sizeLine ∧ upd (upd H D (.lst (lets z i))) D (.lst (acc ++ [V.bl b])) = upd H D (.lst (lets z (i + 1))) := by
  refine ⟨lets z i, upd_same, ?_, ?_⟩
  · have e : (lets z i).length ≤ z.length := by
      show ((z.cps.toList.take i).map _).length ≤ z.cps.size
      rw [List.length_map, List.length_take, Array.length_toList]
      omega
    exact Nat.lt_of_le_of_lt (Nat.le_trans e hz) (by decide)
  · rw [upd_upd]
    have e : lets z (i + 1) = lets z i ++ [V.bl (letterB c)] := by
      show (z.cps.toList.take (i + 1)).map _ = _
      rw [take_cps hc, List.map_append]; rfl
    rw [e, hb]
theorem lets_all {z : Str} : (lets z z.cps.size) = (z.cps.toList.map letterB).map V.bl := by
  show (z.cps.toList.take _).map _ = _
  rw [List.take_of_length_le (by rw [Array.length_toList]; exact Nat.le_refl _), List.map_map]; rfl
section
variable {P : Program} {w : World} {K : PySem.W.Frag} {mg : Str → Option Value} {base : Heap} {a : Ad}
def spIsName (hp : Prop) : Sp := fun vs H Q _ => ∃ x, vs = [x] ∧ Th H x ∧ (∀ z, x = .str z → z.length ≤ 100) ∧ ∀ H', Same H H' → Q (.bl (nameV x)) H'
theorem ok_is_name (T : Txt K mg a) : FnOk P w K mg base CX0 1 a.is_name.f a.is_name.fd ["thing"] (spIsName True) := by
  have sc : FnScope ["thing", "letter"] ["thing"] (defScope (top 3)) := ⟨rfl, rfl, rfl, by decide +kernel, rfl, by decide +kernel, by decide +kernel⟩
  refine T.is_name.ok sc (fun vs H Q E h => ?_) (fun cdv A outer s H vs Q E hr h => ?_)
  · obtain ⟨x, rfl, _⟩ := h; rfl
  · obtain ⟨x, rfl, hx, hz, k⟩ := h
    refine ⟨_, (pss_cons (ps_if (PW.pt (pw_or (pt_not (pt_val (pe_callB call_isi (by rfl) T.isinstance (by decide +kernel) (pa_cons (pv 0) (pa_cons (pe_bltn (v := .ty "str") (by rfl) T.str (by decide +kernel) rfl) pa_nil))))) (pw_or1 (pt_not (pt_chain op_le op_le pe_int (pe_callB call_len_str (by rfl) T.len PySem.boot_len (pa_cons (pv 0) pa_nil)) pe_int)))))
      (pss_one (ps_ret pe_bl))
      pss_nil)
      (pss_one (ps_ret (pe_callB (cr_all rfl) (by rfl) T.all (by decide +kernel) (pa_cons (pe_lc (own := [("letter", 1)]) (g := gName 1) (by rfl) sc.nd (pi_str (pv 0)) (blkOk_by (own := [("letter", 1)]) (N := ["thing", "letter"]) (sc := defScope (top 3)) (by decide +kernel)) (fun _ _ _ _ _ => pg_name (i := 1) sc.nd rfl (Or.inl rfl)) (fun _ _ _ _ _ => pts_nil) (fun _ _ _ _ _ => (by exact (pe_chain op_le_str op_le_str pe_str (pv 1) pe_str)))) pa_nil))))), ?_⟩
    have k0 := k H fun _ _ e => e
    cases hx with
    | str z =>
      have hz := hz z rfl
      walk_at "go"
      refine i_no rfl ?_
      walk_at "go"
      refine ⟨_, rfl, z, rfl, Nat.le_trans hz (by decide), _, _, rfl, rfl, _, rfl, ?_⟩
      have bad : (¬ ((1:Int) ≤ (z.length : Int)) ∨ ¬ ((z.length : Int) ≤ 8)) → nameV (.str z) = false := fun h => by
        show ((decide (1 ≤ z.length) && decide (z.length ≤ 8)) && _) = false
        rcases h with h | h
        · rw [decide_eq_false (by omega)]; rfl
        · rw [decide_eq_false (p := z.length ≤ 8) (by omega), Bool.and_false]; rfl
      refine i_itd (fun h1 => ?_) (fun h1 => ?_)
      · refine ⟨_, _, rfl, rfl, _, rfl, ?_⟩
        refine i_itn (fun h2 => ?_) (fun h2 => ?_)
        · rw [bad (.inr h2)] at k0; walk_at "go"; exact k0
        · walk_at "go"
          refine ⟨_, rfl, z, rfl, fun D nD => ?_⟩
          refine lc_its (Qd := fun H' => ∃ (a : Addr) (bs : List Bool), [V.ref D] = [V.ref a] ∧ SqL K H' a (bs.map V.bl) ∧ Q (.bl (bs.all id)) H') (fun i H' => H' = upd H D (.lst (lets z i))) rfl (fun i c H1 hc e => ?_) (fun H1 e => ?_)
          · subst e
            refine ⟨rfl, ?_⟩
            unfold tYes
            with_reducible refine L2.iteT ?_
            refine ⟨_, rfl, _, _, rfl, rfl, _, rfl, ?_⟩
            refine i_itb (fun h1 => ?_) (fun h1 => ?_)
            · have h1 : decide (97 ≤ c) = true := (le_a c).symm.trans h1
              refine ⟨_, _, rfl, rfl, lets_step hz hc ?_⟩
              refine Eq.trans (le_z c) ?_
              unfold letterB
              rw [h1]; rfl
            · have h1 : decide (97 ≤ c) = false := (le_a c).symm.trans h1
              refine lets_step hz hc ?_
              unfold letterB
              rw [h1]; rfl
          · subst e
            refine ⟨D, z.cps.toList.map letterB, rfl, SqL.of (by rw [upd_same, lets_all]), ?_⟩
            have e : nameV (.str z) = (z.cps.toList.map letterB).all id := by
              show ((decide (1 ≤ z.length) && decide (z.length ≤ 8)) && z.cps.toList.all letterB) = _
              rw [decide_eq_true (by omega), decide_eq_true (p := z.length ≤ 8) (by omega), List.all_map]; rfl
            rw [← e]
            exact k _ (same_new (fun _ _ e => e) nD)
      · rw [bad (.inl h1)] at k0
        refine ⟨_, rfl, i_yes rfl ?_⟩
        walk_at "go"; exact k0
    | _ => (walk_at "go"; refine i_yes rfl ?_; walk_at "go"; exact k0)
end
end Me
set_option maxHeartbeats 8000000
namespace Me
open PySem L2
theorem at_ints {ns : List Int} {i : Int} (h0 : 0 ≤ i) (h1 : i < ((ns.map V.int).length : Int)) : ∃ z, atI (ns.map V.int) i = some (V.int z) := by
  obtain ⟨j, rfl⟩ := Int.eq_ofNat_of_zero_le h0
  have hj : j < ns.length := by rw [List.length_map] at h1; omega
  exact ⟨ns[j], atI_nat (by rw [List.getElem?_map, List.getElem?_eq_getElem hj]; rfl)⟩
theorem st_upd {H : Hp} {p L : Addr} {ns : List Int} {i b c : Int} {o : HO} (e : o = .lst [.ref L, .int i, .int b, .int c]) (n : L ≠ p) (hL : H L = some (.lst (ns.map V.int))) (hn : ns.length ≤ 63) (hi : 0 ≤ i) (hb : 0 ≤ b) (hc : 0 ≤ c) (hd : c < 2147483647) : StAt (upd H p o) p L :=
  ⟨ns, i, b, c, by rw [upd_same, e], by rw [upd_ne n]; exact hL, hn, hi, hb, hc, hd⟩
theorem fm {x m : Int} (h : 0 < m) : 0 ≤ x.fmod m ∧ x.fmod m < m := by
  rw [Int.fmod_eq_emod_of_nonneg _ (by omega)]
  exact ⟨Int.emod_nonneg _ (by omega), Int.emod_lt_of_pos _ h⟩
theorem fd {x m : Int} (hx : 0 ≤ x) (h : 0 < m) : 0 ≤ x.fdiv m := by
  rw [Int.fdiv_eq_ediv_of_nonneg _ (by omega)]
  exact Int.ediv_nonneg hx (by omega)
theorem Went.rfl' {p : Addr} {H : Hp} (h : StOk H p) : Went p H H := ⟨h, fun _ _ _ e => e, fun _ e => e⟩
theorem StAt.keep {p L : Addr} {H H' : Hp} (h : StAt H p L) (k : Same H H') : StAt H' p L := by
  obtain ⟨ns, i, b, c, h1, h2, h3⟩ := h
  exact ⟨ns, i, b, c, k _ _ h1, k _ _ h2, h3⟩
theorem StOk.keep {p : Addr} {H H' : Hp} (h : StOk H p) (k : Same H H') : StOk H' p := h.imp fun _ q => q.keep k
theorem Went.new {p q : Addr} {H H' : Hp} {o : HO} (w : Went p H H') (n : H' q = none) : Went p H (upd H' q o) := by
  have k : Same H' (upd H' q o) := fun b u e => by rw [upd_ne (ne_of_none e n)]; exact e
  exact ⟨w.1.keep k, fun a u ne e => k _ _ (w.2.1 a u ne e), fun L e => (w.2.2 L e).keep k⟩
/-- an object that was not there at first is written -/
theorem Went.wr {p q : Addr} {H H' : Hp} {o : HO} (S : StOk H p) (w : Went p H H') (n : H q = none) (nq : q ≠ p) : Went p H (upd H' q o) := by
  obtain ⟨L, hL⟩ := S
  have h' := w.2.2 L hL
  have nL : L ≠ q := by obtain ⟨_, _, _, _, _, e, _⟩ := hL; exact ne_of_none e n
  refine went_mk hL ?_ fun a u ne e => by rw [upd_ne (ne_of_none e n)]; exact w.2.1 a u ne e
  obtain ⟨ns, i, b, c, h1, h2, h3⟩ := h'
  exact ⟨ns, i, b, c, by rw [upd_ne nq.symm]; exact h1, by rw [upd_ne nL]; exact h2, h3⟩
theorem StOk.ne {H : Hp} {p q : Addr} (S : StOk H p) (n : H q = none) : q ≠ p := by
  obtain ⟨L, _, _, _, _, e, _⟩ := S
  exact fun z => by rw [z, e] at n; cases n
theorem Went.none {p q : Addr} {H H' : Hp} (w : Went p H H') (n : H' q = none) (nq : q ≠ p) : H q = none := by
  cases e : H q with
  | none => rfl
  | some o => rw [w.2.1 q o nq e] at n; cases n
theorem at_mem {xs : List V} {i : Int} (h0 : 0 ≤ i) (h1 : i < (xs.length : Int)) : ∃ v, atI xs i = some v ∧ v ∈ xs := by
  obtain ⟨j, rfl⟩ := Int.eq_ofNat_of_zero_le h0
  have hj : j < xs.length := by omega
  exact ⟨xs[j], atI_nat (List.getElem?_eq_getElem hj), List.getElem_mem hj⟩


section
variable {P : Program} {w : World} {K : PySem.W.Frag} {mg : Str → Option Value} {base : Heap} {a : Ad}
def spPull : Sp := fun vs H Q _ => ∃ (p : Addr) (m : Int), vs = [.ref p, .int m] ∧ StOk H p ∧ 0 < m ∧ m < 1073741824 ∧ ∀ (r : Int) (H' : Hp), 0 ≤ r → r < m → Went p H H' → Q (.int r) H'
theorem ok_pull (T : Txt K mg a) : FnOk P w K mg base CX0 1 a._law_pull.f a._law_pull.fd ["_law_state", "_law_many"] spPull := by
  have sc : FnScope ["_law_state", "_law_many", "_law_cell", "_law_number_here"] ["_law_state", "_law_many"] (defScope (top 32)) := ⟨rfl, rfl, rfl, by decide +kernel, rfl, by decide +kernel, by decide +kernel⟩
  refine T._law_pull.ok sc (fun vs H Q E h => ?_) (fun cdv A outer s H vs Q E hr h => ?_)
  · obtain ⟨p, m, rfl, _⟩ := h
    rfl
  · obtain ⟨p, m, rfl, S, hm0, hm1, k⟩ := h
    have S0 := S
    obtain ⟨L, SL⟩ := S
    obtain ⟨ns, i, b, c, hp, hL, hn, hi, hb, hc0, hc1⟩ := id SL
    refine ⟨_, (pss_cons (ps_if (PW.pt (pw_and (pt_cmpR op_eq (pe_ix ix_list (pv 0) pe_int (fun _ _ => rfl)) pe_int (nomark _)) (pw_and1 (pt_cmpR op_lt (pe_ix ix_list (pv 0) pe_int (fun _ _ => rfl)) (pe_callB call_len_seq (by rfl) T.len PySem.boot_len (pa_cons (pe_ix ix_list (pv 0) pe_int (fun _ _ => rfl)) pa_nil)) (nomark _)))))
      (pss_cons (ps_set (i := 2) sc.nd rfl (by first | exact Or.inl rfl | exact Or.inr rfl) (pe_ix ix_list (pe_ix ix_list (pv 0) pe_int (fun _ _ => rfl)) (pe_ix ix_list (pv 0) pe_int (fun _ _ => rfl)) (fun _ _ => rfl)))
      (pss_cons (ps_asg (pe_op op_add (pe_ix ix_list (pv 0) pe_int (fun _ _ => rfl)) pe_int) (pg_sub (pv 0) pe_int set_list))
      (pss_one (ps_if (pt_cmpR op_ge (pv 2) (pe_op op_pow pe_int pe_int) (nomark _))
      (pss_one (ps_asg (pv 2) (pg_sub (pv 0) pe_int set_list)))
      (pss_one (ps_asg (pe_op op_mod (pe_callTy call_int1 (by rfl) T.int (by decide +kernel) (pa_cons (pe_op op_add (pe_op op_add (pe_op op_mul (pe_ix ix_list (pv 0) pe_int (fun _ _ => rfl)) pe_int) (pe_op op_mod (pe_callTy call_int1 (by rfl) T.int (by decide +kernel) (pa_cons (pv 2) pa_nil)) pe_int)) pe_int) pa_nil)) pe_int) (pg_sub (pv 0) pe_int set_list)))))))
      pss_nil)
      (pss_cons (ps_if (pt_cmpR op_gt (pe_ix ix_list (pv 0) pe_int (fun _ _ => rfl)) pe_int (nomark _))
      (pss_cons (ps_set (i := 3) sc.nd rfl (by first | exact Or.inl rfl | exact Or.inr rfl) (pe_op op_modN (pe_callTy call_int1 (by rfl) T.int (by decide +kernel) (pa_cons (pe_ix ix_list (pv 0) pe_int (fun _ _ => rfl)) pa_nil)) (pv 1)))
      (pss_cons (ps_asg (pe_op op_fdivN (pe_ix ix_list (pv 0) pe_int (fun _ _ => rfl)) (pv 1)) (pg_sub (pv 0) pe_int set_list))
      (pss_one (ps_ret (pv 3)))))
      pss_nil)
      (pss_cons (ps_asg (pe_op op_mod (pe_callTy call_int1 (by rfl) T.int (by decide +kernel) (pa_cons (pe_op op_add (pe_op op_mul (pe_ix ix_list (pv 0) pe_int (fun _ _ => rfl)) pe_int) pe_int) pa_nil)) pe_int) (pg_sub (pv 0) pe_int set_list))
      (pss_cons (ps_set (i := 3) sc.nd rfl (by first | exact Or.inl rfl | exact Or.inr rfl) (pe_op op_mod (pe_callTy call_int1 (by rfl) T.int (by decide +kernel) (pa_cons (pe_op op_add (pe_op op_mul (pe_ix ix_list (pv 0) pe_int (fun _ _ => rfl)) pe_int) (pe_op op_fdiv (pe_ix ix_list (pv 0) pe_int (fun _ _ => rfl)) pe_int)) pa_nil)) pe_int))
      (pss_one (ps_ret (pe_op op_modN (pe_callTy call_int1 (by rfl) T.int (by decide +kernel) (pa_cons (pe_op op_fdiv (pv 3) pe_int) pa_nil)) (pv 1)))))))), ?_⟩
    have nL : L ≠ p := ne_of hL hp (by intro z; injection z with z; cases ns <;> cases z)
    have nL' : p ≠ L := nL.symm
    have hmn : m ≠ 0 ∧ m.natAbs < 1073741824 := ⟨by omega, by omega⟩
    have hmz : m ≠ 0 := hmn.1
    walk_at "go"
    refine i_itei (fun hb0 => ?_) (fun hb0 => ?_)
    · walk_at "go"
      refine i_itd (fun hlt => ?_) (fun hlt => ?_)
      · obtain ⟨z, hz⟩ := at_ints hi hlt
        walk_at "go"
        refine i_ixl hL hz ?_
        walk_at "go"
        have e18 : (10 : Int) ^ Int.toNat 18 = 1000000000000000000 := by decide
        refine i_itd (fun hz => ?_) (fun hz => ?_)
        · rw [e18] at hz
          walk_at "go"
          refine i_itd (fun h1 => ?_) (fun h1 => ?_)
          · walk_at "go"
            refine k _ _ (fm hm0).1 (fm hm0).2 (went_mk SL (st_upd (i := i + 1) (b := z.fdiv m) (c := c) rfl nL (by walk_at "hp") hn (by omega) (Me.fd (by omega) hm0) hc0 hc1) fun a o n h => by simp only [upd_ne n]; exact h)
          · exact absurd (by omega : 0 < z) h1
        · walk_at "go"
          refine i_itd (fun h1 => ?_) (fun h1 => ?_)
          · exact absurd h1 (by omega)
          · walk_at "go"
            refine k _ _ (fm hm0).1 (fm hm0).2 (went_mk SL (st_upd (i := i + 1) (b := b) rfl nL (by walk_at "hp") hn (by omega) hb (by omega) (by omega)) fun a o n h => by simp only [upd_ne n]; exact h)
      · walk_at "go"
        refine i_itd (fun h1 => ?_) (fun h1 => ?_)
        · exact absurd h1 (by omega)
        · walk_at "go"
          refine k _ _ (fm hm0).1 (fm hm0).2 (went_mk SL (st_upd (i := i) (b := b) rfl nL (by walk_at "hp") hn (by omega) hb (by omega) (by omega)) fun a o n h => by simp only [upd_ne n]; exact h)
    · walk_at "go"
      refine i_itd (fun h1 => ?_) (fun h1 => ?_)
      · walk_at "go"
        refine k _ _ (fm hm0).1 (fm hm0).2 (went_mk SL (st_upd (i := i) (b := b.fdiv m) (c := c) rfl nL (by walk_at "hp") hn (by omega) (Me.fd (by omega) hm0) hc0 hc1) fun a o n h => by simp only [upd_ne n]; exact h)
      · exact absurd (by omega : 0 < b) h1
def spStart (K : PySem.W.Frag) : Sp := fun vs H Q _ => ∃ (s : Addr) (ns : List Int), vs = [.ref s] ∧ SqL K H s (ns.map V.int) ∧ ns.length ≤ 63 ∧ ∀ (p : Addr) (H' : Hp), H p = none → StOk H' p → Same H H' → Q (.ref p) H'
theorem ok_start (T : Txt K mg a) : FnOk P w K mg base CX0 1 a._law_start.f a._law_start.fd ["_law_script"] (spStart K) := by
  have sc : FnScope ["_law_script"] ["_law_script"] (defScope (top 31)) := ⟨rfl, rfl, rfl, by decide +kernel, rfl, by decide +kernel, by decide +kernel⟩
  refine T._law_start.ok sc (fun vs H Q E h => ?_) (fun cdv A outer s H vs Q E hr h => ?_)
  · obtain ⟨p, m, rfl, _⟩ := h
    rfl
  · obtain ⟨sa, ns, rfl, hS, hn, k⟩ := h
    refine ⟨_, (pss_one (ps_ret (pe_lst (pa_cons (pe_callTy call_list_of (by rfl) T.list (by decide +kernel) (pa_cons (pv 0) pa_nil)) (pa_cons pe_int (pa_cons pe_int (pa_cons pe_int pa_nil))))))), ?_⟩
    walk_at "go"
    refine ⟨sa, _, rfl, .inl hS, fun L nL => ?_⟩
    walk_at "go"
    rename_i p np
    obtain ⟨npL, npH⟩ := upd_none np
    refine k p _ npH ⟨L, ns, 0, 0, 1234577, upd_same, ?_, hn, by omega, by omega, by omega, by omega⟩ fun b o e => ?_
    · walk_at "hp"
    · rw [upd_ne (ne_of_none e npH), upd_ne (ne_of_none e nL)]; exact e
end
end Me
set_option maxHeartbeats 8000000
namespace Me
open PySem L2


/-- a thing that the script draws -/
theorem atI_some {α : Type} {xs : List α} {i : Int} (h0 : 0 ≤ i) (h1 : i < (xs.length : Int)) : ∃ v, atI xs i = some v := by
  obtain ⟨j, rfl⟩ := Int.eq_ofNat_of_zero_le h0
  have hj : j < xs.length := by omega
  exact ⟨xs[j], atI_nat (List.getElem?_eq_getElem hj)⟩
theorem i_m1 {r : V → List V → Hp → VK → Prop} {to te : TE} {σ : L2.St} {H : Hp} {Q : VK} (q : to σ H fun x H1 => (∃ a, x = .str a) ∧ te σ H1 fun y H2 => r x [y] H2 Q) : tM1 r to te σ H Q := q
section
variable {P : Program} {w : World} {K : PySem.W.Frag} {mg : Str → Option Value} {base : Heap} {a : Ad}
end
end Me
set_option maxHeartbeats 8000000
namespace Me
open PySem L2


def widBad (n : Int) : V → Option Str
  | .non => none
  | .int i => if 1 ≤ i ∧ i ≤ 60 ∧ n ≤ 1 * 2 ^ i.toNat then none else some ("width" : Str)
  | _ => some ("width" : Str)
def numBad : V → V → V → Option Str
  | .int l, .int h, w => if 2 ≤ h - l + 1 ∧ h - l + 1 ≤ 2 ^ Int.toNat 60 then widBad (h - l + 1) w else some ("high" : Str)
  | .int _, _, _ => some ("high" : Str)
  | _, _, _ => some ("low" : Str)
def dueOf (fs : List V) : Option Str → List V
  | none => .str "made" :: fs
  | some z => [.str "refused", .str z]
def Kept (H : Hp) (x : Addr) (H' : Hp) : Prop := ∀ b o, b ≠ x → H b = some o → H' b = some o
def SpI (C bad : Addr) (r : Option Str) (fs : List (Str × V)) (x dx : Addr) (H : Hp) (Q : VK) (E : XK) : Prop :=
  (r = none → ∀ H', Kept H x H' → H' x = some (.ins C dx fs) → Q .non H') ∧
  (∀ z, r = some z → ∀ d H', Same H H' → H' d = some (.xd [("part", .str z)]) → E (.ref bad) (some d) H')
theorem Kept.upd {H H' : Hp} {x : Addr} {o : HO} (k : Kept H x H') : Kept H x (upd H' x o) := fun b u n e => by rw [upd_ne n]; exact k b u n e
theorem Kept.rfl' {H : Hp} {x : Addr} : Kept H x H := fun _ _ _ e => e
theorem SpI.bad {C bad : Addr} {r : Option Str} {fs : List (Str × V)} {x dx : Addr} {H H1 : Hp} {Q : VK} {E : XK} {z : Str} (k : SpI C bad r fs x dx H Q E) (e : r = some z) (s : Same H H1) : badW bad z E H1 :=
  fun d n => k.2 z e d _ (same_new s n) upd_same
theorem i_chain {r r' : R2} {ta tb tc : TE} {σ : L2.St} {H : Hp} {Q : VK} (q : ta σ H fun x H1 => tb σ H1 fun y H2 => r x y H2 fun z H3 => ∃ k, z = .bl k ∧ (if k = true then tc σ H3 fun w' H4 => r' y w' H4 Q else Q (.bl false) H3)) : tChain r r' ta tb tc σ H Q := q
theorem i_sfld {K : PySem.W.Frag} {ta tv : TE} {f : Str} {D : Ends} {σ : L2.St} {H : Hp} (q : tv σ H fun y H1 => ta σ H1 fun x H2 => ∃ a C dx fs, x = .ref a ∧ H2 a = some (.ins C dx fs) ∧ Cls K C ∧ NoAttr K C f ∧ fs.length < 1000 ∧ D.nx σ (upd H2 a (.ins C dx (putF f y fs)))) : sFld K ta tv f D σ H := q
theorem same_rfl {H : Hp} : Same H H := fun _ _ e => e
section
variable {P : Program} {w : World} {K : PySem.W.Frag} {mg : Str → Option Value} {base : Heap} {a : Ad}
def spNum (a : Ad) : Sp := fun vs H Q E => ∃ x dx l h wv, vs = [.ref x, l, h, wv] ∧ H x = some (.ins (a.C 1) dx []) ∧ Th H l ∧ Th H h ∧ Th H wv ∧ SpI (a.C 1) a.bad (numBad l h wv) [("low", l), ("high", h), ("width", wv)] x dx H Q E
theorem ok_num (T : Txt K mg a) : FnOk P w K mg base (L2.CX P w) 3 (a.I 1).f (a.I 1).fd ["self", "low", "high", "width"] (spNum a) := by
  have G_is_int : FnOk P w K mg base CX0 1 a.is_int.f a.is_int.fd ["thing"] spIsInt := ok_is_int T
  have G_is_int_within : FnOk P w K mg base CX0 2 a.is_int_within.f a.is_int_within.fd ["thing", "least", "most"] spWithin := ok_within T
  have sc : FnScope ["self", "low", "high", "width"] ["self", "low", "high", "width"] (defScope (inClass (top 11) 0)) := ⟨rfl, rfl, rfl, by decide +kernel, rfl, by decide +kernel, by decide +kernel⟩
  refine T.I1.ok sc (fun vs H Q E h => ?_) (fun cdv A outer s H vs Q E hr h => ?_)
  · obtain ⟨x, dx, l, h, wv, rfl, _⟩ := h
    rfl
  · obtain ⟨x, dx, l, h, wv, rfl, hx, hl, hh, hw, k⟩ := h
    have tk : Takes (cxOf (L2.CX P w) P w K mg base ["self", "low", "high", "width"] "Number.__init__" (defScope (inClass (top 11) 0)) (a.I 1).f cdv A outer s H E) (fun cls d _ H => E cls d H) := takes_of rfl rfl rfl rfl
    refine ⟨_, (pss_cons (ps_if (pt_not (pt_val (pe_call G_is_int (hr.mono (by first | decide | omega)) rfl T.is_int.mg T.is_int.kp T.is_int.b .nil pass0 (pa_cons (pv 1) pa_nil))))
      (pss_one (ps_bad T.bad rfl (hr.mono (by decide)) tk))
      pss_nil)
      (pss_cons (ps_if (PW.pt (pw_or (pt_not (pt_val (pe_call G_is_int (hr.mono (by first | decide | omega)) rfl T.is_int.mg T.is_int.kp T.is_int.b .nil pass0 (pa_cons (pv 2) pa_nil)))) (pw_or1 (pt_not (pt_chain op_le op_le pe_int (pe_op op_add (pe_op op_sub (pv 2) (pv 1)) pe_int) (pe_op op_pow pe_int pe_int))))))
      (pss_one (ps_bad T.bad rfl (hr.mono (by decide)) tk))
      pss_nil)
      (pss_cons (ps_if (pt_cmpR op_notN (pv 3) pe_non (nomark _))
      (pss_one (ps_if (PW.pt (pw_or (pt_not (pt_val (pe_call G_is_int_within (hr.mono (by first | decide | omega)) rfl T.is_int_within.mg T.is_int_within.kp T.is_int_within.b .nil pass0 (pa_cons (pv 3) (pa_cons pe_int (pa_cons pe_int pa_nil)))))) (pw_or1 (pt_cmpR op_lt (pe_op op_shl pe_int (pv 3)) (pe_op op_add (pe_op op_sub (pv 2) (pv 1)) pe_int) (nomark _)))))
      (pss_one (ps_bad T.bad rfl (hr.mono (by decide)) tk))
      pss_nil))
      pss_nil)
      (pss_cons (ps_fld (pv 0) (pv 1) rfl)
      (pss_cons (ps_fld (pv 0) (pv 2) rfl)
      (pss_one (ps_fld (pv 0) (pv 3) rfl))))))), ?_⟩
    walk_at "go"
    refine ⟨l, rfl, hl, ?_⟩
    walk_at "go"
    cases hl with
    | int l =>
      refine i_no rfl ?_
      walk_at "go"
      refine ⟨h, rfl, hh, ?_⟩
      walk_at "go"
      cases hh with
      | int h =>
        refine i_no rfl ?_
        walk_at "go"
        have e60 : (2 : Int) ^ Int.toNat 60 = 1152921504606846976 := by decide +kernel
        have high : ¬ (2 ≤ h - l + 1 ∧ h - l + 1 ≤ (2 : Int) ^ Int.toNat 60) → numBad (.int l) (.int h) wv = some ("high" : Str) := fun q => if_neg q
        have lf : H x = some (.ins (a.C 1) dx []) := hx
        have cl := (T.kc 1 (by decide)).cl
        have no := (T.kc 1 (by decide)).no
        refine i_chain ?_
        walk_at "go"
        refine i_itd (fun h1 => ?_) (fun h1 => ?_)
        · walk_at "go"
          refine i_itn (fun h2 => ?_) (fun h2 => ?_)
          · exact k.bad (high (by omega)) same_rfl
          · have ok : numBad (.int l) (.int h) wv = widBad (h - l + 1) wv := if_pos ⟨by omega, by omega⟩
            rw [ok] at k
            walk_at "go"
            refine ⟨rfl, _, rfl, ?_⟩
            have fin : widBad (h - l + 1) wv = none → tSeq (sFld K (tVar 0) (tVar 1) "low") (tSeq (sFld K (tVar 0) (tVar 2) "high") (sFld K (tVar 0) (tVar 3) "width")) { nx := fun _ H' => Q .non H', rt := Q } (L2.start ["self", "low", "high", "width"] [.ref x, .int l, .int h, wv]) H := fun e => by
              walk_at "go"
              refine i_sfld ?_
              walk_at "go"
              refine ⟨x, _, dx, [], rfl, hx, cl, no _ (by decide), by decide, ?_⟩
              walk_at "go"
              refine i_sfld ?_
              walk_at "go"
              refine ⟨x, _, dx, [("low", .int l)], rfl, upd_same, cl, no _ (by decide), (by show (1 : Nat) < 1000; decide), ?_⟩
              dsimp only
              refine i_sfld ?_
              walk_at "go"
              refine ⟨x, _, dx, [("low", .int l), ("high", .int h)], rfl, upd_same, cl, no _ (by decide), (by show (2 : Nat) < 1000; decide), ?_⟩
              exact k.1 e _ Kept.rfl'.upd.upd.upd upd_same
            refine i_itn (fun h3 => ?_) (fun h3 => ?_)
            · walk_at "go"
              refine ⟨wv, _, _, rfl, hw, ?_⟩
              cases hw with
              | int i =>
                have wd : ¬ (1 ≤ i ∧ i ≤ 60 ∧ h - l + 1 ≤ 1 * 2 ^ i.toNat) → widBad (h - l + 1) (.int i) = some ("width" : Str) := fun q => if_neg q
                refine ⟨_, rfl, ?_⟩
                by_cases h4 : 1 ≤ i ∧ i ≤ 60
                · refine i_no (by show (!(decide (1 ≤ i) && decide (i ≤ 60))) = false; rw [decide_eq_true h4.1, decide_eq_true h4.2]; rfl) ?_
                  obtain ⟨h5, h6⟩ := h4
                  walk_at "go"
                  refine i_itd (fun h7 => ?_) (fun h7 => ?_)
                  · exact k.bad (wd (by omega)) same_rfl
                  · exact fin (if_pos ⟨by omega, by omega, by omega⟩)
                · refine i_yes (by
                    show (!(decide (1 ≤ i) && decide (i ≤ 60))) = true
                    rw [← Bool.decide_and, decide_eq_false h4]; rfl) ?_
                  exact k.bad (wd (by omega)) same_rfl
              | non => exact absurd rfl h3
              | _ => exact ⟨_, rfl, i_yes rfl (k.bad rfl same_rfl)⟩
            · subst h3
              exact fin rfl
        · walk_at "go"
          exact k.bad (high (by omega)) same_rfl
      | _ =>
        refine i_yes rfl ?_
        exact k.bad rfl same_rfl
    | _ =>
      refine i_yes rfl ?_
      exact k.bad rfl same_rfl
end
end Me
set_option maxHeartbeats 8000000
namespace Me
open PySem L2


/-- a thing, and the class of the text that it is of -/
inductive Itm (a : Ad) (H : Hp) : V → Option Nat → Prop where
  | th {v : V} (h : Th H v) : Itm a H v none
  | ins {p dx : Addr} {fs : List (Str × V)} {i : Nat} (hi : i < 11) (h : H p = some (.ins (a.C i) dx fs)) : Itm a H (.ref p) (some i)
theorem Itm.same {a : Ad} {H H' : Hp} {v : V} {k : Option Nat} (h : Itm a H v k) (s : Same H H') : Itm a H' v k := by
  cases h with
  | th h => exact .th (h.same s)
  | ins hi h => exact .ins hi (s _ _ h)
theorem Itm.kit {K : PySem.W.Frag} {mg : Str → Option Value} {a : Ad} (T : Txt K mg a) {H : Hp} {v : V} {k : Option Nat} (h : Itm a H v k) :
    ∃ t, TyX K H v t ∧ ∀ j, j < 11 → PySem.W.kitOne K t (.ref (a.C j)) = some (decide (k = some j)) := by
  cases h with
  | th h =>
    have go : ∀ t ∈ tys, ∀ j, j < 11 → PySem.W.kitOne K (.type t) (.ref (a.C j)) = some (decide ((none : Option Nat) = some j)) := fun t m j hj => by
      rw [(T.kc j hj).tK t m]; rfl
    cases h with
    | non => exact ⟨_, .base .non, go _ (by decide)⟩
    | bl b => exact ⟨_, .base (.bl b), go _ (by decide)⟩
    | int i => exact ⟨_, .base (.int i), go _ (by decide)⟩
    | str x => exact ⟨_, .base (.str x), go _ (by decide)⟩
    | tup h => exact ⟨_, .base (.tup h), go _ (by decide)⟩
    | lst h => exact ⟨_, .base (.lst h), go _ (by decide)⟩
    | dK h => exact ⟨_, .base (.dK h), go _ (by decide)⟩
  | @ins p dx fs i hi h =>
    refine ⟨_, (T.kc i hi).ty h, fun j hj => ?_⟩
    rw [(T.kc i hi).kt j hj]
    congr 1
    by_cases e : i = j
    · rw [decide_eq_true e, decide_eq_true (by rw [e])]
    · rw [decide_eq_false e, decide_eq_false (fun q => e (Option.some.inj q))]
theorem kitAny_or {K : PySem.W.Frag} {t c : Value} {cs : List Value} {b r : Bool} (h : PySem.W.kitOne K t c = some b) (hr : PySem.W.kitAny K t cs = some r) : PySem.W.kitAny K t (c :: cs) = some (b || r) := by
  refine kitAny_cons h (fun e => ?_) (fun e => ?_)
  · rw [e]; exact hr
  · rw [e]; rfl
def isK (k : Option Nat) (js : List Nat) : Bool := js.any fun j => decide (k = some j)
theorem kitAny_js {K : PySem.W.Frag} {a : Ad} {t : Value} {k : Option Nat} (h : ∀ j, j < 11 → PySem.W.kitOne K t (.ref (a.C j)) = some (decide (k = some j))) : ∀ js : List Nat, (∀ j ∈ js, j < 11) → PySem.W.kitAny K t (js.map fun j => .ref (a.C j)) = some (isK k js)
  | [], _ => rfl
  | j :: js, hj => kitAny_or (h j (hj j List.mem_cons_self)) (kitAny_js h js fun i m => hj i (List.mem_cons_of_mem _ m))
theorem paired_js {a : Ad} : ∀ js : List Nat, PySem.Paired ClsV (js.map fun j => V.ref (a.C j)) (js.map fun j => Value.ref (a.C j))
  | [] => .nil
  | j :: js => .cons (.own _) (paired_js js)
/-- isinstance(x, (classes ..)) -/
theorem i_isT {K : PySem.W.Frag} {mg : Str → Option Value} {a : Ad} (T : Txt K mg a) {H : Hp} {Q : VK} {x : V} {k : Option Nat} {tp : Addr} (js : List Nat) (hj : ∀ j ∈ js, j < 11) (h : Itm a H x k) (ht : H tp = some (.tup (js.map fun j => V.ref (a.C j)))) (q : Q (.bl (isK k js)) H) : rIsiT K [x, .ref tp] H Q := by
  obtain ⟨t, ty, hk⟩ := h.kit T
  exact ⟨x, tp, _, t, _, _, rfl, ht, paired_js js, ty, kitAny_js hk js hj, q⟩
/-- isinstance(x, class) -/
theorem i_isC {K : PySem.W.Frag} {mg : Str → Option Value} {a : Ad} (T : Txt K mg a) {H : Hp} {Q : VK} {x : V} {k : Option Nat} {j : Nat} (hj : j < 11) (h : Itm a H x k) (q : Q (.bl (decide (k = some j))) H) : rIsi K [x, .ref (a.C j)] H Q := by
  obtain ⟨t, ty, hk⟩ := h.kit T
  exact ⟨x, _, t, _, _, rfl, .own _, ty, hk j hj, q⟩
def bitBad (y : V) : Option Str := if withinV y 1 16 = true then none else some ("many" : Str)
def callBad (y : V) : Option Str := if nameV y = true then none else some ("name" : Str)
def itemBad (k : Option Nat) (wv : V) : Option Str := if isK k [1, 2, 3] = true then (if wv = .non ∨ withinV wv 1 3 = true then none else some ("width" : Str)) else some ("item" : Str)
theorem ok0x {P : Program} {w : World} {K : PySem.W.Frag} {mg : Str → Option Value} {base : Heap} {x qual : Str} {params : Arguments} {body : List Stmt} {scope : Scope} {dv : List V} {f : Addr} {fd : FuncData} {N ps : List Str} {k : Nat} {sp : Sp} (F : FunD K x qual params body scope dv [] f fd) (S : FnScope N ps scope) (len : ∀ vs H Q E, sp vs H Q E → vs.length = ps.length)
    (go : ∀ (cdv : Value) (A : Around) (outer : List Env) (s : Shared) (H : Hp) (vs : List V) (Q : VK) (E : XK), Room k (A.deeper (PyProof.Rows.envOfC qual scope s.heap.objs.size f cdv)) → sp vs H Q E →
      ∃ t, PSs (cxOf (L2.CX P w) P w K mg base N qual scope f cdv A outer s H E) body t ∧ t { nx := fun _ H' => Q .non H', rt := Q } (start N vs) H) : FnOk P w K mg base (L2.CX P w) (k + 1) f fd ps sp := F.ok S len go
section
variable {P : Program} {w : World} {K : PySem.W.Frag} {mg : Str → Option Value} {base : Heap} {a : Ad}
def spBit (a : Ad) : Sp := fun vs H Q E => ∃ x dx y, vs = [.ref x, y] ∧ H x = some (.ins (a.C 2) dx []) ∧ Th H y ∧ SpI (a.C 2) a.bad (bitBad y) [("many", y)] x dx H Q E
theorem ok_bit (T : Txt K mg a) : FnOk P w K mg base (L2.CX P w) 3 (a.I 2).f (a.I 2).fd ["self", "many"] (spBit a) := by
  have G_is_int_within : FnOk P w K mg base CX0 2 a.is_int_within.f a.is_int_within.fd ["thing", "least", "most"] spWithin := ok_within T
  have sc : FnScope ["self", "many"] ["self", "many"] (defScope (inClass (top 12) 0)) := ⟨rfl, rfl, rfl, by decide +kernel, rfl, by decide +kernel, by decide +kernel⟩
  refine ok0x T.I2 sc (fun vs H Q E h => ?_) (fun cdv A outer s H vs Q E hr h => ?_)
  · obtain ⟨x, dx, y, rfl, _⟩ := h
    rfl
  · obtain ⟨x, dx, y, rfl, hx, hy, k⟩ := h
    have tk : Takes (cxOf (L2.CX P w) P w K mg base ["self", "many"] "Bits.__init__" (defScope (inClass (top 12) 0)) (a.I 2).f cdv A outer s H E) (fun cls d _ H => E cls d H) := takes_of rfl rfl rfl rfl
    refine ⟨_, (pss_cons (ps_if (pt_not (pt_val (pe_call G_is_int_within (hr.mono (by first | decide | omega)) rfl T.is_int_within.mg T.is_int_within.kp T.is_int_within.b .nil pass0 (pa_cons (pv 1) (pa_cons pe_int (pa_cons pe_int pa_nil))))))
      (pss_one (ps_bad T.bad rfl (hr.mono (by decide)) tk))
      pss_nil)
      (pss_one (ps_fld (pv 0) (pv 1) rfl))), ?_⟩
    walk_at "go"
    refine ⟨y, _, _, rfl, hy, ?_⟩
    walk_at "go"
    refine i_itb (fun h1 => ?_) (fun h1 => ?_)
    · refine k.bad (if_neg ?_) same_rfl
      intro z; rw [z] at h1; cases h1
    · have h1 : withinV y 1 16 = true := by revert h1; cases withinV y 1 16 <;> simp
      walk_at "go"
      dsimp only
      refine i_sfld ?_
      walk_at "go"
      refine ⟨x, _, dx, [], rfl, hx, (T.kc 2 (by decide)).cl, (T.kc 2 (by decide)).no _ (by decide), by decide, ?_⟩
      exact k.1 (if_pos h1) _ Kept.rfl'.upd upd_same
def spCal (a : Ad) : Sp := fun vs H Q E => ∃ x dx y, vs = [.ref x, y] ∧ H x = some (.ins (a.C 3) dx []) ∧ Th H y ∧ (∀ z, y = .str z → z.length ≤ 100) ∧ SpI (a.C 3) a.bad (callBad y) [("name", y)] x dx H Q E
theorem ok_cal (T : Txt K mg a) : FnOk P w K mg base (L2.CX P w) 3 (a.I 3).f (a.I 3).fd ["self", "name"] (spCal a) := by
  have G_is_name : FnOk P w K mg base CX0 1 a.is_name.f a.is_name.fd ["thing"] (spIsName True) := ok_is_name T
  have sc : FnScope ["self", "name"] ["self", "name"] (defScope (inClass (top 13) 0)) := ⟨rfl, rfl, rfl, by decide +kernel, rfl, by decide +kernel, by decide +kernel⟩
  refine ok0x T.I3 sc (fun vs H Q E h => ?_) (fun cdv A outer s H vs Q E hr h => ?_)
  · obtain ⟨x, dx, y, rfl, _⟩ := h
    rfl
  · obtain ⟨x, dx, y, rfl, hx, hy, hz, k⟩ := h
    have tk : Takes (cxOf (L2.CX P w) P w K mg base ["self", "name"] "Call.__init__" (defScope (inClass (top 13) 0)) (a.I 3).f cdv A outer s H E) (fun cls d _ H => E cls d H) := takes_of rfl rfl rfl rfl
    refine ⟨_, (pss_cons (ps_if (pt_not (pt_val (pe_call G_is_name (hr.mono (by first | decide | omega)) rfl T.is_name.mg T.is_name.kp T.is_name.b .nil pass0 (pa_cons (pv 1) pa_nil))))
      (pss_one (ps_bad T.bad rfl (hr.mono (by decide)) tk))
      pss_nil)
      (pss_one (ps_fld (pv 0) (pv 1) rfl))), ?_⟩
    walk_at "go"
    refine ⟨y, rfl, hy, hz, fun H1 s1 => ?_⟩
    walk_at "go"
    refine i_itb (fun h1 => ?_) (fun h1 => ?_)
    · refine k.bad (if_neg ?_) s1
      intro z; rw [z] at h1; cases h1
    · have h1 : nameV y = true := by revert h1; cases nameV y <;> simp
      walk_at "go"
      dsimp only
      refine i_sfld ?_
      walk_at "go"
      refine ⟨x, _, dx, [], rfl, s1 _ _ hx, (T.kc 3 (by decide)).cl, (T.kc 3 (by decide)).no _ (by decide), by decide, ?_⟩
      exact k.1 (if_pos h1) _ (Kept.upd fun b o _ e => s1 b o e) upd_same
def spItm (a : Ad) : Sp := fun vs H Q E => ∃ x dx y wv i, vs = [.ref x, y, wv] ∧ H x = some (.ins (a.C 4) dx []) ∧ Itm a H y i ∧ Th H wv ∧ SpI (a.C 4) a.bad (itemBad i wv) [("item", y), ("width", wv)] x dx H Q E
theorem ok_itm (T : Txt K mg a) : FnOk P w K mg base (L2.CX P w) 3 (a.I 4).f (a.I 4).fd ["self", "item", "width"] (spItm a) := by
  have G_is_int_within : FnOk P w K mg base CX0 2 a.is_int_within.f a.is_int_within.fd ["thing", "least", "most"] spWithin := ok_within T
  have sc : FnScope ["self", "item", "width"] ["self", "item", "width"] (defScope (inClass (top 14) 0)) := ⟨rfl, rfl, rfl, by decide +kernel, rfl, by decide +kernel, by decide +kernel⟩
  refine ok0x T.I4 sc (fun vs H Q E h => ?_) (fun cdv A outer s H vs Q E hr h => ?_)
  · obtain ⟨x, dx, y, wv, i, rfl, _⟩ := h
    rfl
  · obtain ⟨x, dx, y, wv, i, rfl, hx, hy, hw, k⟩ := h
    have tk : Takes (cxOf (L2.CX P w) P w K mg base ["self", "item", "width"] "Items.__init__" (defScope (inClass (top 14) 0)) (a.I 4).f cdv A outer s H E) (fun cls d _ H => E cls d H) := takes_of rfl rfl rfl rfl
    refine ⟨_, (pss_cons (ps_if (pt_not (pt_val (pe_callB call_isiT (by rfl) T.isinstance (by decide +kernel) (pa_cons (pv 1) (pa_cons (pe_tup (pa_cons (pe_glob (v := .ref (a.C 1)) rfl (T.kc 1 (by decide)).gl rfl) (pa_cons (pe_glob (v := .ref (a.C 2)) rfl (T.kc 2 (by decide)).gl rfl) (pa_cons (pe_glob (v := .ref (a.C 3)) rfl (T.kc 3 (by decide)).gl rfl) pa_nil)))) pa_nil)))))
      (pss_one (ps_bad T.bad rfl (hr.mono (by decide)) tk))
      pss_nil)
      (pss_cons (ps_if (PW.pt (pw_and (pt_cmpR op_notN (pv 2) pe_non (nomark _)) (pw_and1 (pt_not (pt_val (pe_call G_is_int_within (hr.mono (by first | decide | omega)) rfl T.is_int_within.mg T.is_int_within.kp T.is_int_within.b .nil pass0 (pa_cons (pv 2) (pa_cons pe_int (pa_cons pe_int pa_nil)))))))))
      (pss_one (ps_bad T.bad rfl (hr.mono (by decide)) tk))
      pss_nil)
      (pss_cons (ps_fld (pv 0) (pv 1) rfl)
      (pss_one (ps_fld (pv 0) (pv 2) rfl))))), ?_⟩
    walk_at "go"
    rename_i tp ntp
    have s1 : Same H (upd H tp (.tup [.ref (a.C 1), .ref (a.C 2), .ref (a.C 3)])) := same_new same_rfl ntp
    refine i_isT T [1, 2, 3] (by decide) (hy.same s1) upd_same ?_
    walk_at "go"
    refine i_itb (fun h1 => ?_) (fun h1 => ?_)
    · refine k.bad (if_neg ?_) s1
      intro z; rw [z] at h1; cases h1
    · have h1 : isK i [1, 2, 3] = true := by revert h1; cases isK i [1, 2, 3] <;> simp
      have e1 : itemBad i wv = if wv = .non ∨ withinV wv 1 3 = true then none else some ("width" : Str) := if_pos h1
      rw [e1] at k
      have fin : wv = .non ∨ withinV wv 1 3 = true → tSeq (sFld K (tVar 0) (tVar 1) "item") (sFld K (tVar 0) (tVar 2) "width") { nx := fun _ H' => Q .non H', rt := Q } (L2.start ["self", "item", "width"] [.ref x, y, wv]) (upd H tp (.tup [.ref (a.C 1), .ref (a.C 2), .ref (a.C 3)])) := fun e => by
        walk_at "go"
        refine i_sfld ?_
        walk_at "go"
        refine ⟨x, _, dx, [], rfl, s1 _ _ hx, (T.kc 4 (by decide)).cl, (T.kc 4 (by decide)).no _ (by decide), by decide, ?_⟩
        dsimp only
        refine i_sfld ?_
        walk_at "go"
        refine ⟨x, _, dx, [("item", y)], rfl, upd_same, (T.kc 4 (by decide)).cl, (T.kc 4 (by decide)).no _ (by decide), (by show (1 : Nat) < 1000; decide), ?_⟩
        exact k.1 (if_pos e) _ (Kept.upd (Kept.upd fun b o _ e => s1 b o e)) upd_same
      walk_at "go"
      refine ⟨rfl, _, rfl, ?_⟩
      refine i_itn (fun h2 => ?_) (fun h2 => ?_)
      · walk_at "go"
        refine ⟨wv, _, _, rfl, hw.same s1, ?_⟩
        walk_at "go"
        refine i_itb (fun h3 => ?_) (fun h3 => ?_)
        · refine k.bad (if_neg ?_) s1
          rintro (z | z)
          · exact h2 z
          · rw [z] at h3; cases h3
        · exact fin (.inr (by revert h3; cases withinV wv 1 3 <;> simp))
      · exact fin (.inl h2)
end
end Me
set_option maxHeartbeats 8000000
namespace Me
open PySem L2


theorem i_fld {K : PySem.W.Frag} {ta : TE} {f : Str} {σ : L2.St} {H : Hp} {Q : VK} (q : ta σ H fun x H1 => ∃ a C dx fs v, x = .ref a ∧ H1 a = some (.ins C dx fs) ∧ Cls K C ∧ NoAttr K C f ∧ fs.lookup f = some v ∧ Q v H1) : tFld K ta f σ H Q := q
theorem i_feq {K : PySem.W.Frag} {f : Str} {C p q dx dy : Addr} {fs gs : List (Str × V)} {v : V} {σ : L2.St} {H : Hp} {Q : VK} (h0 : σ[0]? = some (some (.ref p))) (h1 : σ[1]? = some (some (.ref q))) (hp : H p = some (.ins C dx fs)) (hq : H q = some (.ins C dy gs))
    (cl : Cls K C) (no : NoAttr K C f) (l1 : fs.lookup f = some v) (l2 : gs.lookup f = some v) (e : scal v v = true) (k : Q (.bl true) H) : tOp rEq (tFld K (tVar 0) f) (tFld K (tVar 1) f) σ H Q := by
  refine ⟨_, h0, p, C, dx, fs, v, rfl, hp, cl, no, l1, _, h1, q, C, dy, gs, v, rfl, hq, cl, no, l2, e, ?_⟩
  rw [decide_eq_true rfl]; exact k
end Me
set_option maxHeartbeats 8000000
namespace Me
open PySem L2


/-- what an exception that leaves a call in a try meets -/
def AW (n : Nat) (W : WX) : XK := fun cls d H => ∀ σ : L2.St, σ.length = n → W cls d σ H
def tsBad (bad : Addr) (i : Nat) : Addr → Value → Option Addr → TS := fun e cls d => tRet (tTup (tCons (tC (.str "refused")) (tCons (tXf e cls d bad "part" (tVar i)) tNil)))
theorem Kept.same {H H' : Hp} {x dx : Addr} {o o' : HO} (k : Kept (L2.upd (L2.upd H dx o) x o') x H') (nx : H x = none) (nd : H dx = none) : Same H H' := fun b u e => by
  have n1 := ne_of_none e nx
  have n2 := ne_of_none e nd
  refine k b u n1 ?_
  rw [upd_ne n1, upd_ne n2]; exact e
theorem same2 {H : Hp} {x dx : Addr} {o o' : HO} (nx : H x = none) (nd : H dx = none) : Same H (upd (upd H dx o) x o') := fun b u e => by
  rw [upd_ne (ne_of_none e nx), upd_ne (ne_of_none e nd)]; exact e
theorem Same.trans {H H1 H2 : Hp} (a : Same H H1) (b : Same H1 H2) : Same H H2 := fun c o e => b c o (a c o e)
theorem caught {K : PySem.W.Frag} {mg : Str → Option Value} {bad : Addr} {badI : DA} (B : BadT K mg bad badI) {i n : Nat} (hi : i < n) {D : Ends} {z : Str} {d : Addr} {H' : Hp} (hd : H' d = some (.xd [("part", .str z)]))
    (q : ∀ t, H' t = none → D.rt (.ref t) (upd H' t (.tup [.str "refused", .str z]))) : AW n (wAs K (.ref bad) i (tsBad bad i) (fun _ _ _ _ => False) D) (.ref bad) (some d) H' := by
  intro σ hl
  refine ⟨true, B.ex, fun _ e0 ne => ?_, fun z => Bool.noConfusion z⟩
  refine ⟨_, by rw [List.getElem?_set_self (by omega)], rfl, rfl, d, _, .str z, rfl, hd, rfl, ?_⟩
  refine ⟨by show (2 : Nat) ≤ 16777216; decide, fun t nt => ?_⟩
  exact q t nt
end Me
set_option maxHeartbeats 8000000
namespace Me
open PySem L2


theorem scal_wid {n : Int} {v : V} (e : widBad n v = none) : scal v v = true := by
  cases v with
  | non => rfl
  | int i => rfl
  | _ => (unfold widBad at e; cases e)
theorem scal_num {l h wv : V} (e : numBad l h wv = none) : scal l l = true ∧ scal h h = true ∧ scal wv wv = true := by
  cases l with
  | int l =>
    cases h with
    | int h =>
      refine ⟨rfl, rfl, ?_⟩
      have e : (if 2 ≤ h - l + 1 ∧ h - l + 1 ≤ (2 : Int) ^ Int.toNat 60 then widBad (h - l + 1) wv else some ("high" : Str)) = none := e
      by_cases q : 2 ≤ h - l + 1 ∧ h - l + 1 ≤ (2 : Int) ^ Int.toNat 60
      · rw [if_pos q] at e; exact scal_wid e
      · rw [if_neg q] at e; cases e
    | _ => cases e
  | _ => cases e
theorem i_make {C : Addr} {sp : Sp} {dvs : List V} {E : XK} {t : TA} {σ : L2.St} {H : Hp} {Q : VK} (q : t σ H fun vs H1 => ∀ x dx, H1 x = none → H1 dx = none → dx ≠ x → sp (.ref x :: (vs ++ dvs)) (upd (upd H1 dx (.own x)) x (.ins C dx [])) (fun v H2 => v = .non ∧ Q (.ref x) H2) E) : tMake C sp dvs E t σ H Q := q
end Me
set_option maxHeartbeats 8000000
namespace Me
open PySem L2


def bitB (c : Nat) : Bool := decide (c = 48) || decide (c = 49)
def wordV : V → Bool
  | .str z => (decide (1 ≤ z.length) && decide (z.length ≤ 8)) && z.cps.toList.all bitB
  | _ => false
def bitsV : V → Bool
  | .str z => z.cps.toList.all bitB
  | _ => false
theorem goes01 (c : Nat) : (Str.ofString "01").cps.contains c = bitB c := by
  have e : (Str.ofString "01").cps = #[48, 49] := by decide +kernel
  rw [e]
  unfold bitB
  by_cases h : c = 48
  · subst h; simp
  · by_cases h2 : c = 49
    · subst h2; simp
    · rw [decide_eq_false h, decide_eq_false h2]
      simp [h, h2]
theorem strip01 (z : Str) : decide (V.str (Txt.stripChars z "01") = V.str "") = z.cps.toList.all bitB := by
  have eg : (Str.ofString "01").cps.contains = bitB := funext goes01
  have e1 : Txt.stripChars z "01" = Builtin.Str.strSub z (stripLo bitB true z) (stripHi bitB true z (stripLo bitB true z)) := by
    rw [← eg]; exact PyProof.Rows.stripBy_eq _ _ _ _
  obtain ⟨l1, l2, l3⟩ := PyProof.Rows.lo_facts bitB z
  obtain ⟨h1, h2, h3, h4⟩ := PyProof.Rows.hi_facts bitB z _ l1
  have len : (Txt.stripChars z "01").length = stripHi bitB true z (stripLo bitB true z) - stripLo bitB true z := by rw [e1]; exact size_strSub _ _ _ h2
  have at_ : ∀ k, k < z.length → (h : k < z.cps.toList.length) → z.cps.getD k 0 = z.cps.toList[k] := fun k hk h => by
    rw [← PyProof.Rows.getD_list]
    rw [List.getD, List.getElem?_eq_getElem h]; rfl
  have ln : z.cps.toList.length = z.length := by simp [Str.length]
  by_cases h : z.cps.toList.all bitB = true
  · rw [h]
    refine decide_eq_true ?_
    have all : ∀ k, k < z.length → bitB (z.cps.getD k 0) = true := fun k hk => by
      rw [at_ k hk (by omega)]
      exact List.all_eq_true.mp h _ (List.getElem_mem _)
    have lo : stripLo bitB true z = z.length := by
      rcases l3 with l3 | l3
      · exact l3
      · by_cases q : stripLo bitB true z < z.length
        · rw [all _ q] at l3; cases l3
        · omega
    have z0 : (Txt.stripChars z "01").length = 0 := by omega
    congr 1
    generalize Txt.stripChars z "01" = u at z0
    cases u with
    | mk c =>
      have : c = #[] := Array.eq_empty_of_size_eq_zero z0
      rw [this]; rfl
  · rw [Bool.eq_false_iff.mpr h]
    refine decide_eq_false fun q => h ?_
    have q := V.str.inj q
    have z0 : (Txt.stripChars z "01").length = 0 := by rw [q]; rfl
    refine List.all_eq_true.mpr fun c hc => ?_
    obtain ⟨k, hk, rfl⟩ := List.mem_iff_getElem.mp hc
    rw [← at_ k (by omega) hk]
    by_cases r : k < stripLo bitB true z
    · exact l2 k r
    · exact h3 k (by omega) (by omega)
def chkBad (w n : V) : Option Str := if wordV w = true then (if nameV n = true then none else some ("name" : Str)) else some ("word" : Str)
def Sh (v : V) : Prop := ∀ z, v = .str z → z.length ≤ 100
section
variable {P : Program} {w : World} {K : PySem.W.Frag} {mg : Str → Option Value} {base : Heap} {a : Ad}
def spBits : Sp := fun vs H Q _ => ∃ x, vs = [x] ∧ Th H x ∧ Sh x ∧ Q (.bl (bitsV x)) H
theorem ok_bits (T : Txt K mg a) : FnOk P w K mg base CX0 1 a.is_bits.f a.is_bits.fd ["thing"] spBits := by
  have sc : FnScope ["thing"] ["thing"] (defScope (top 4)) := ⟨rfl, rfl, rfl, by decide +kernel, rfl, by decide +kernel, by decide +kernel⟩
  refine T.is_bits.ok sc (fun vs H Q E h => ?_) (fun cdv A outer s H vs Q E hr h => ?_)
  · obtain ⟨x, rfl, _⟩ := h
    rfl
  · obtain ⟨x, rfl, hx, hz, k⟩ := h
    refine ⟨_, (pss_one (ps_ret (pe_and (pe_callB call_isi (by rfl) T.isinstance (by decide +kernel) (pa_cons (pv 0) (pa_cons (pe_bltn (v := .ty "str") (by rfl) T.str (by decide +kernel) rfl) pa_nil))) (pe_one (pe_cmpR op_eq (pe_m1 F.slot_str_strip F.type_str_strip mt_stripChars (pv 0) pe_str rfl rfl rfl) pe_str (nomark _)))))), ?_⟩
    cases hx with
    | str z =>
      walk_at "go"
      refine i_m1 ?_
      walk_at "go"
      refine ⟨⟨_, rfl⟩, _, _, rfl, rfl, Nat.le_trans (hz z rfl) (by decide), ?_⟩
      walk_at "go"
      have e := strip01 z
      have k : Q (V.bl (z.cps.toList.all bitB)) H := k
      rw [← e] at k
      exact k
    | _ => (walk_at "go"; exact k)
def spWd (hp : Prop) : Sp := fun vs H Q _ => ∃ x, vs = [x] ∧ Th H x ∧ Sh x ∧ Q (.bl (wordV x)) H
theorem ok_wd (T : Txt K mg a) : FnOk P w K mg base CX0 2 a.is_word.f a.is_word.fd ["thing"] (spWd True) := by
  have G_is_bits : FnOk P w K mg base CX0 1 a.is_bits.f a.is_bits.fd ["thing"] spBits := ok_bits T
  have sc : FnScope ["thing"] ["thing"] (defScope (top 5)) := ⟨rfl, rfl, rfl, by decide +kernel, rfl, by decide +kernel, by decide +kernel⟩
  refine T.is_word.ok sc (fun vs H Q E h => ?_) (fun cdv A outer s H vs Q E hr h => ?_)
  · obtain ⟨x, rfl, _⟩ := h
    rfl
  · obtain ⟨x, rfl, hx, hz, k⟩ := h
    refine ⟨_, (pss_one (ps_ret (pe_and (pe_call G_is_bits (hr.mono (by first | decide | omega)) rfl T.is_bits.mg T.is_bits.kp T.is_bits.b .nil pass0 (pa_cons (pv 0) pa_nil)) (pe_one (pe_chain op_le op_le pe_int (pe_callB call_len_str (by rfl) T.len PySem.boot_len (pa_cons (pv 0) pa_nil)) pe_int))))), ?_⟩
    walk_at "go"
    refine ⟨x, rfl, hx, hz, ?_⟩
    cases hx with
    | str z =>
      refine ⟨_, rfl, ?_⟩
      have kk : Q (V.bl ((decide (1 ≤ z.length) && decide (z.length ≤ 8)) && z.cps.toList.all bitB)) H := k
      refine i_itb (fun h => ?_) (fun h => ?_)
      · have h : z.cps.toList.all bitB = true := h
        rw [h, Bool.and_true] at kk
        refine i_chain ?_
        walk_at "go"
        refine ⟨z, rfl, Nat.le_trans (hz z rfl) (by decide), ?_⟩
        walk_at "go"
        refine i_itd (fun h1 => ?_) (fun h1 => ?_)
        · walk_at "go"
          rw [decide_eq_true (show 1 ≤ z.length by omega), Bool.true_and] at kk
          have e : decide ((z.length : Int) ≤ 8) = decide (z.length ≤ 8) := by
            by_cases q : z.length ≤ 8
            · rw [decide_eq_true q]; exact decide_eq_true (by omega)
            · rw [decide_eq_false q]; exact decide_eq_false (by omega)
          rw [e]
          exact kk
        · rw [decide_eq_false (show ¬ 1 ≤ z.length by omega), Bool.false_and] at kk
          exact kk
      · have h : z.cps.toList.all bitB = false := h
        rw [h, Bool.and_false] at kk
        exact kk
    | _ => exact ⟨_, rfl, i_no rfl k⟩
end
end Me
set_option maxHeartbeats 8000000
namespace Me
open PySem L2


def wayBad (w n : V) (i : Option Nat) : Option Str := match chkBad w n with | some z => some z | none => if isK i [1, 2, 4, 3] = true ∨ i = some 0 then none else some ("kind" : Str)
def doorBad (w n y : V) (i : Option Nat) : Option Str := match chkBad w n with | some z => some z | none => if y = .non ∨ isK i [1, 2, 4, 3] = true ∨ i = some 0 then none else some ("kind" : Str)
def roomBad (w n y : V) (i : Option Nat) : Option Str := match chkBad w n with | some z => some z | none => if y = .non ∨ isK i [1, 2, 4, 3] = true then none else some ("kind" : Str)
def partBad (n : V) (i : Option Nat) : Option Str := if nameV n = true then (if isK i [1, 2, 4, 3] = true then none else some ("kind" : Str)) else some ("name" : Str)
section
variable {P : Program} {w : World} {K : PySem.W.Frag} {mg : Str → Option Value} {base : Heap} {a : Ad}
def spSimple (a : Ad) : Sp := fun vs H Q _ => ∃ x i, vs = [x] ∧ Itm a H x i ∧ ∀ H', Same H H' → Q (.bl (isK i [1, 2, 4, 3])) H'
theorem ok_simple (T : Txt K mg a) : FnOk P w K mg base CX0 1 a.is_simple.f a.is_simple.fd ["thing"] (spSimple a) := by
  have sc : FnScope ["thing"] ["thing"] (defScope (top 15)) := ⟨rfl, rfl, rfl, by decide +kernel, rfl, by decide +kernel, by decide +kernel⟩
  refine T.is_simple.ok sc (fun vs H Q E h => ?_) (fun cdv A outer s H vs Q E hr h => ?_)
  · obtain ⟨x, i, rfl, _⟩ := h
    rfl
  · obtain ⟨x, i, rfl, hx, k⟩ := h
    refine ⟨_, (pss_one (ps_ret (pe_callB call_isiT (by rfl) T.isinstance (by decide +kernel) (pa_cons (pv 0) (pa_cons (pe_tup (pa_cons (pe_glob (v := .ref (a.C 1)) rfl (T.kc 1 (by decide)).gl rfl) (pa_cons (pe_glob (v := .ref (a.C 2)) rfl (T.kc 2 (by decide)).gl rfl) (pa_cons (pe_glob (v := .ref (a.C 4)) rfl (T.kc 4 (by decide)).gl rfl) (pa_cons (pe_glob (v := .ref (a.C 3)) rfl (T.kc 3 (by decide)).gl rfl) pa_nil))))) pa_nil))))), ?_⟩
    walk_at "go"
    rename_i tp ntp
    have s1 := same_new (o := .tup [.ref (a.C 1), .ref (a.C 2), .ref (a.C 4), .ref (a.C 3)]) same_rfl ntp
    exact i_isT T [1, 2, 4, 3] (by decide) (hx.same s1) upd_same (k _ s1)
/-- None, or bad part z -/
def Chk (bad : Addr) (r : Option Str) (H : Hp) (Q : VK) (E : XK) : Prop := (r = none → ∀ H', Same H H' → Q .non H') ∧ ∀ z, r = some z → ∀ d H', Same H H' → H' d = some (.xd [("part", .str z)]) → E (.ref bad) (some d) H'
theorem Chk.bad {bad : Addr} {r : Option Str} {H H1 : Hp} {Q : VK} {E : XK} {z : Str} (k : Chk bad r H Q E) (e : r = some z) (s : Same H H1) : badW bad z E H1 := fun d n => k.2 z e d _ (same_new s n) upd_same
def spCheck (a : Ad) : Sp := fun vs H Q E => ∃ x y, vs = [x, y] ∧ Th H x ∧ Sh x ∧ Th H y ∧ Sh y ∧ Chk a.bad (chkBad x y) H Q E
theorem ok_check (T : Txt K mg a) : FnOk P w K mg base (L2.CX P w) 3 a.check_word_and_name.f a.check_word_and_name.fd ["word", "name"] (spCheck a) := by
  have G_is_word : FnOk P w K mg base CX0 2 a.is_word.f a.is_word.fd ["thing"] (spWd True) := ok_wd T
  have G_is_name : FnOk P w K mg base CX0 1 a.is_name.f a.is_name.fd ["thing"] (spIsName True) := ok_is_name T
  have sc : FnScope ["word", "name"] ["word", "name"] (defScope (top 22)) := ⟨rfl, rfl, rfl, by decide +kernel, rfl, by decide +kernel, by decide +kernel⟩
  refine T.check_word_and_name.okX sc (fun vs H Q E h => ?_) (fun cdv A outer s H vs Q E hr h => ?_)
  · obtain ⟨x, y, rfl, _⟩ := h
    rfl
  · obtain ⟨x, y, rfl, hx, sx, hy, sy, k⟩ := h
    have tk : Takes (cxOf (L2.CX P w) P w K mg base ["word", "name"] "check_word_and_name" (defScope (top 22)) a.check_word_and_name.f cdv A outer s H E) (fun cls d _ H => E cls d H) := takes_of rfl rfl rfl rfl
    refine ⟨_, (pss_cons (ps_if (pt_not (pt_val (pe_call G_is_word (hr.mono (by first | decide | omega)) rfl T.is_word.mg T.is_word.kp T.is_word.b .nil pass0 (pa_cons (pv 0) pa_nil))))
      (pss_one (ps_bad T.bad rfl (hr.mono (by decide)) tk))
      pss_nil)
      (pss_one (ps_if (pt_not (pt_val (pe_call G_is_name (hr.mono (by first | decide | omega)) rfl T.is_name.mg T.is_name.kp T.is_name.b .nil pass0 (pa_cons (pv 1) pa_nil))))
      (pss_one (ps_bad T.bad rfl (hr.mono (by decide)) tk))
      pss_nil))), ?_⟩
    walk_at "go"
    refine ⟨x, rfl, hx, sx, ?_⟩
    refine ⟨_, rfl, ?_⟩
    refine i_itb (fun h1 => ?_) (fun h1 => ?_)
    · exact k.bad (if_neg (fun z => by rw [z] at h1; cases h1)) same_rfl
    · have h1 : wordV x = true := by revert h1; cases wordV x <;> simp
      walk_at "go"
      refine ⟨y, rfl, hy, sy, fun H1 s1 => ?_⟩
      refine ⟨_, rfl, ?_⟩
      refine i_itb (fun h2 => ?_) (fun h2 => ?_)
      · refine k.bad (z := "name") ?_ s1
        unfold chkBad
        rw [if_pos h1, if_neg (fun z => by rw [z] at h2; cases h2)]
      · have h2 : nameV y = true := by revert h2; cases nameV y <;> simp
        refine k.1 ?_ _ s1
        unfold chkBad
        rw [if_pos h1, if_pos h2]
def spWay (a : Ad) : Sp := fun vs H Q E => ∃ x dx wd nm y i, vs = [.ref x, wd, nm, y] ∧ H x = some (.ins (a.C 5) dx []) ∧ Th H wd ∧ Sh wd ∧ Th H nm ∧ Sh nm ∧ Itm a H y i ∧ SpI (a.C 5) a.bad (wayBad wd nm i) [("word", wd), ("name", nm), ("kind", y)] x dx H Q E
theorem ok_Way (T : Txt K mg a) : FnOk P w K mg base (L2.CX P w) 4 (a.I 5).f (a.I 5).fd ["self", "word", "name", "kind"] (spWay a) := by
  have G_check_word_and_name : FnOk P w K mg base (L2.CX P w) 3 a.check_word_and_name.f a.check_word_and_name.fd ["word", "name"] (spCheck a) := ok_check T
  have G_is_simple : FnOk P w K mg base CX0 1 a.is_simple.f a.is_simple.fd ["thing"] (spSimple a) := ok_simple T
  have sc : FnScope ["self", "word", "name", "kind"] ["self", "word", "name", "kind"] (defScope (inClass (top 16) 0)) := ⟨rfl, rfl, rfl, by decide +kernel, rfl, by decide +kernel, by decide +kernel⟩
  refine ok0x T.I5 sc (fun vs H Q E h => ?_) (fun cdv A outer s H vs Q E hr h => ?_)
  · obtain ⟨x, dx, wd, nm, y, i, rfl, _⟩ := h
    rfl
  · obtain ⟨x, dx, wd, nm, y, i, rfl, hx, hw, sw, hn, sn, hy, k⟩ := h
    have tk : Takes (cxOf (L2.CX P w) P w K mg base ["self", "word", "name", "kind"] "Way.__init__" (defScope (inClass (top 16) 0)) (a.I 5).f cdv A outer s H E) (fun cls d _ H => E cls d H) := takes_of rfl rfl rfl rfl
    have kc := T.kc 5 (by decide)
    refine ⟨_, (pss_cons (ps_expr (pe_call G_check_word_and_name (hr.mono (by first | decide | omega)) rfl T.check_word_and_name.mg T.check_word_and_name.kp T.check_word_and_name.b .nil (passes_call tk (fun _ _ _ _ h => h)) (pa_cons (pv 1) (pa_cons (pv 2) pa_nil))))
      (pss_cons (ps_if (PW.pt (pw_and (pt_not (pt_val (pe_call G_is_simple (hr.mono (by first | decide | omega)) rfl T.is_simple.mg T.is_simple.kp T.is_simple.b .nil pass0 (pa_cons (pv 3) pa_nil)))) (pw_and1 (pt_not (pt_val (pe_callB call_isi (by rfl) T.isinstance (by decide +kernel) (pa_cons (pv 3) (pa_cons (pe_glob (v := .ref (a.C 0)) rfl (T.kc 0 (by decide)).gl rfl) pa_nil))))))))
      (pss_one (ps_bad T.bad rfl (hr.mono (by decide)) tk))
      pss_nil)
      (pss_cons (ps_fld (pv 0) (pv 1) rfl)
      (pss_cons (ps_fld (pv 0) (pv 2) rfl)
      (pss_one (ps_fld (pv 0) (pv 3) rfl)))))), ?_⟩
    walk_at "go"
    refine ⟨wd, nm, rfl, hw, sw, hn, sn, fun e H1 s1 => ?_, fun z e d H1 s1 hd => ?_⟩
    · have ek : wayBad wd nm i = if isK i [1, 2, 4, 3] = true ∨ i = some 0 then none else some ("kind" : Str) := by unfold wayBad; rw [e]
      rw [ek] at k
      have fin : (isK i [1, 2, 4, 3] = true ∨ i = some 0) → ∀ H2, Same H H2 → tSeq (sFld K (tVar 0) (tVar 1) "word") (tSeq (sFld K (tVar 0) (tVar 2) "name") (sFld K (tVar 0) (tVar 3) "kind")) { nx := fun _ H' => Q .non H', rt := Q } (L2.start ["self", "word", "name", "kind"] [.ref x, wd, nm, y]) H2 := fun e H2 s2 => by
        walk_at "go"
        refine i_sfld ?_
        walk_at "go"
        refine ⟨x, _, dx, [], rfl, s2 _ _ hx, kc.cl, kc.no _ (by decide), by decide, ?_⟩
        dsimp only
        refine i_sfld ?_
        walk_at "go"
        refine ⟨x, _, dx, [("word", wd)], rfl, upd_same, kc.cl, kc.no _ (by decide), (by show (1 : Nat) < 1000; decide), ?_⟩
        dsimp only
        refine i_sfld ?_
        walk_at "go"
        refine ⟨x, _, dx, [("word", wd), ("name", nm)], rfl, upd_same, kc.cl, kc.no _ (by decide), (by show (2 : Nat) < 1000; decide), ?_⟩
        exact k.1 (if_pos e) _ (Kept.upd (Kept.upd (Kept.upd fun b o _ e => s2 b o e))) upd_same
      walk_at "go"
      refine ⟨_, _, rfl, hy.same s1, fun H2 s2 => ?_⟩
      walk_at "go"
      refine i_itb (fun h1 => ?_) (fun h1 => ?_)
      · have h1 : isK i [1, 2, 4, 3] = false := by revert h1; cases isK i [1, 2, 4, 3] <;> simp
        walk_at "go"
        have s12 := s1.trans s2
        refine i_isC T (by decide) (hy.same s12) ?_
        walk_at "go"
        refine i_itn (fun h2 => ?_) (fun h2 => ?_)
        · exact k.bad (if_neg (fun z => z.elim (fun z => by rw [h1] at z; cases z) h2)) s12
        · exact fin (.inr h2) _ s12
      · have h1 : isK i [1, 2, 4, 3] = true := by revert h1; cases isK i [1, 2, 4, 3] <;> simp
        exact fin (.inl h1) _ (s1.trans s2)
    · refine k.2 z ?_ d H1 s1 hd
      unfold wayBad; rw [e]
def spDoor (a : Ad) : Sp := fun vs H Q E => ∃ x dx wd nm y i, vs = [.ref x, wd, nm, y] ∧ H x = some (.ins (a.C 6) dx []) ∧ Th H wd ∧ Sh wd ∧ Th H nm ∧ Sh nm ∧ Itm a H y i ∧ SpI (a.C 6) a.bad (doorBad wd nm y i) [("word", wd), ("name", nm), ("kind", y)] x dx H Q E
theorem ok_Door (T : Txt K mg a) : FnOk P w K mg base (L2.CX P w) 4 (a.I 6).f (a.I 6).fd ["self", "word", "name", "kind"] (spDoor a) := by
  have G_check_word_and_name : FnOk P w K mg base (L2.CX P w) 3 a.check_word_and_name.f a.check_word_and_name.fd ["word", "name"] (spCheck a) := ok_check T
  have G_is_simple : FnOk P w K mg base CX0 1 a.is_simple.f a.is_simple.fd ["thing"] (spSimple a) := ok_simple T
  have sc : FnScope ["self", "word", "name", "kind"] ["self", "word", "name", "kind"] (defScope (inClass (top 17) 0)) := ⟨rfl, rfl, rfl, by decide +kernel, rfl, by decide +kernel, by decide +kernel⟩
  refine ok0x T.I6 sc (fun vs H Q E h => ?_) (fun cdv A outer s H vs Q E hr h => ?_)
  · obtain ⟨x, dx, wd, nm, y, i, rfl, _⟩ := h
    rfl
  · obtain ⟨x, dx, wd, nm, y, i, rfl, hx, hw, sw, hn, sn, hy, k⟩ := h
    have tk : Takes (cxOf (L2.CX P w) P w K mg base ["self", "word", "name", "kind"] "Door.__init__" (defScope (inClass (top 17) 0)) (a.I 6).f cdv A outer s H E) (fun cls d _ H => E cls d H) := takes_of rfl rfl rfl rfl
    have kc := T.kc 6 (by decide)
    refine ⟨_, (pss_cons (ps_expr (pe_call G_check_word_and_name (hr.mono (by first | decide | omega)) rfl T.check_word_and_name.mg T.check_word_and_name.kp T.check_word_and_name.b .nil (passes_call tk (fun _ _ _ _ h => h)) (pa_cons (pv 1) (pa_cons (pv 2) pa_nil))))
      (pss_cons (ps_if (PW.pt (pw_and (pt_cmpR op_notN (pv 3) pe_non (nomark _)) (pw_and (pt_not (pt_val (pe_call G_is_simple (hr.mono (by first | decide | omega)) rfl T.is_simple.mg T.is_simple.kp T.is_simple.b .nil pass0 (pa_cons (pv 3) pa_nil)))) (pw_and1 (pt_not (pt_val (pe_callB call_isi (by rfl) T.isinstance (by decide +kernel) (pa_cons (pv 3) (pa_cons (pe_glob (v := .ref (a.C 0)) rfl (T.kc 0 (by decide)).gl rfl) pa_nil)))))))))
      (pss_one (ps_bad T.bad rfl (hr.mono (by decide)) tk))
      pss_nil)
      (pss_cons (ps_fld (pv 0) (pv 1) rfl)
      (pss_cons (ps_fld (pv 0) (pv 2) rfl)
      (pss_one (ps_fld (pv 0) (pv 3) rfl)))))), ?_⟩
    walk_at "go"
    refine ⟨wd, nm, rfl, hw, sw, hn, sn, fun e H1 s1 => ?_, fun z e d H1 s1 hd => ?_⟩
    · have ek : doorBad wd nm y i = if y = .non ∨ isK i [1, 2, 4, 3] = true ∨ i = some 0 then none else some ("kind" : Str) := by unfold doorBad; rw [e]
      rw [ek] at k
      have fin : (y = .non ∨ isK i [1, 2, 4, 3] = true ∨ i = some 0) → ∀ H2, Same H H2 → tSeq (sFld K (tVar 0) (tVar 1) "word") (tSeq (sFld K (tVar 0) (tVar 2) "name") (sFld K (tVar 0) (tVar 3) "kind")) { nx := fun _ H' => Q .non H', rt := Q } (L2.start ["self", "word", "name", "kind"] [.ref x, wd, nm, y]) H2 := fun e H2 s2 => by
        walk_at "go"
        refine i_sfld ?_
        walk_at "go"
        refine ⟨x, _, dx, [], rfl, s2 _ _ hx, kc.cl, kc.no _ (by decide), by decide, ?_⟩
        dsimp only
        refine i_sfld ?_
        walk_at "go"
        refine ⟨x, _, dx, [("word", wd)], rfl, upd_same, kc.cl, kc.no _ (by decide), (by show (1 : Nat) < 1000; decide), ?_⟩
        dsimp only
        refine i_sfld ?_
        walk_at "go"
        refine ⟨x, _, dx, [("word", wd), ("name", nm)], rfl, upd_same, kc.cl, kc.no _ (by decide), (by show (2 : Nat) < 1000; decide), ?_⟩
        exact k.1 (if_pos e) _ (Kept.upd (Kept.upd (Kept.upd fun b o _ e => s2 b o e))) upd_same
      walk_at "go"
      refine ⟨rfl, _, rfl, ?_⟩
      refine i_itn (fun h0 => ?_) (fun h0 => ?_)
      · walk_at "go"
        refine ⟨_, _, rfl, hy.same s1, fun H2 s2 => ?_⟩
        walk_at "go"
        refine i_itb (fun h1 => ?_) (fun h1 => ?_)
        · have h1 : isK i [1, 2, 4, 3] = false := by revert h1; cases isK i [1, 2, 4, 3] <;> simp
          walk_at "go"
          have s12 := s1.trans s2
          refine i_isC T (by decide) (hy.same s12) ?_
          walk_at "go"
          refine i_itn (fun h2 => ?_) (fun h2 => ?_)
          · exact k.bad (if_neg (fun z => z.elim h0 fun z => z.elim (fun z => by rw [h1] at z; cases z) h2)) s12
          · exact fin (.inr (.inr h2)) _ s12
        · have h1 : isK i [1, 2, 4, 3] = true := by revert h1; cases isK i [1, 2, 4, 3] <;> simp
          exact fin (.inr (.inl h1)) _ (s1.trans s2)
      · exact fin (.inl h0) _ s1
    · refine k.2 z ?_ d H1 s1 hd
      unfold doorBad; rw [e]
def spRoom (a : Ad) : Sp := fun vs H Q E => ∃ x dx wd nm y i, vs = [.ref x, wd, nm, y] ∧ H x = some (.ins (a.C 8) dx []) ∧ Th H wd ∧ Sh wd ∧ Th H nm ∧ Sh nm ∧ Itm a H y i ∧ SpI (a.C 8) a.bad (roomBad wd nm y i) [("word", wd), ("name", nm), ("kind", y)] x dx H Q E
theorem ok_Room (T : Txt K mg a) : FnOk P w K mg base (L2.CX P w) 4 (a.I 8).f (a.I 8).fd ["self", "word", "name", "kind"] (spRoom a) := by
  have G_check_word_and_name : FnOk P w K mg base (L2.CX P w) 3 a.check_word_and_name.f a.check_word_and_name.fd ["word", "name"] (spCheck a) := ok_check T
  have G_is_simple : FnOk P w K mg base CX0 1 a.is_simple.f a.is_simple.fd ["thing"] (spSimple a) := ok_simple T
  have sc : FnScope ["self", "word", "name", "kind"] ["self", "word", "name", "kind"] (defScope (inClass (top 19) 0)) := ⟨rfl, rfl, rfl, by decide +kernel, rfl, by decide +kernel, by decide +kernel⟩
  refine ok0x T.I8 sc (fun vs H Q E h => ?_) (fun cdv A outer s H vs Q E hr h => ?_)
  · obtain ⟨x, dx, wd, nm, y, i, rfl, _⟩ := h
    rfl
  · obtain ⟨x, dx, wd, nm, y, i, rfl, hx, hw, sw, hn, sn, hy, k⟩ := h
    have tk : Takes (cxOf (L2.CX P w) P w K mg base ["self", "word", "name", "kind"] "Room.__init__" (defScope (inClass (top 19) 0)) (a.I 8).f cdv A outer s H E) (fun cls d _ H => E cls d H) := takes_of rfl rfl rfl rfl
    have kc := T.kc 8 (by decide)
    refine ⟨_, (pss_cons (ps_expr (pe_call G_check_word_and_name (hr.mono (by first | decide | omega)) rfl T.check_word_and_name.mg T.check_word_and_name.kp T.check_word_and_name.b .nil (passes_call tk (fun _ _ _ _ h => h)) (pa_cons (pv 1) (pa_cons (pv 2) pa_nil))))
      (pss_cons (ps_if (PW.pt (pw_and (pt_cmpR op_notN (pv 3) pe_non (nomark _)) (pw_and1 (pt_not (pt_val (pe_call G_is_simple (hr.mono (by first | decide | omega)) rfl T.is_simple.mg T.is_simple.kp T.is_simple.b .nil pass0 (pa_cons (pv 3) pa_nil)))))))
      (pss_one (ps_bad T.bad rfl (hr.mono (by decide)) tk))
      pss_nil)
      (pss_cons (ps_fld (pv 0) (pv 1) rfl)
      (pss_cons (ps_fld (pv 0) (pv 2) rfl)
      (pss_one (ps_fld (pv 0) (pv 3) rfl)))))), ?_⟩
    walk_at "go"
    refine ⟨wd, nm, rfl, hw, sw, hn, sn, fun e H1 s1 => ?_, fun z e d H1 s1 hd => ?_⟩
    · have ek : roomBad wd nm y i = if y = .non ∨ isK i [1, 2, 4, 3] = true then none else some ("kind" : Str) := by unfold roomBad; rw [e]
      rw [ek] at k
      have fin : (y = .non ∨ isK i [1, 2, 4, 3] = true) → ∀ H2, Same H H2 → tSeq (sFld K (tVar 0) (tVar 1) "word") (tSeq (sFld K (tVar 0) (tVar 2) "name") (sFld K (tVar 0) (tVar 3) "kind")) { nx := fun _ H' => Q .non H', rt := Q } (L2.start ["self", "word", "name", "kind"] [.ref x, wd, nm, y]) H2 := fun e H2 s2 => by
        walk_at "go"
        refine i_sfld ?_
        walk_at "go"
        refine ⟨x, _, dx, [], rfl, s2 _ _ hx, kc.cl, kc.no _ (by decide), by decide, ?_⟩
        dsimp only
        refine i_sfld ?_
        walk_at "go"
        refine ⟨x, _, dx, [("word", wd)], rfl, upd_same, kc.cl, kc.no _ (by decide), (by show (1 : Nat) < 1000; decide), ?_⟩
        dsimp only
        refine i_sfld ?_
        walk_at "go"
        refine ⟨x, _, dx, [("word", wd), ("name", nm)], rfl, upd_same, kc.cl, kc.no _ (by decide), (by show (2 : Nat) < 1000; decide), ?_⟩
        exact k.1 (if_pos e) _ (Kept.upd (Kept.upd (Kept.upd fun b o _ e => s2 b o e))) upd_same
      walk_at "go"
      refine ⟨rfl, _, rfl, ?_⟩
      refine i_itn (fun h0 => ?_) (fun h0 => ?_)
      · walk_at "go"
        refine ⟨_, _, rfl, hy.same s1, fun H2 s2 => ?_⟩
        refine ⟨_, rfl, ?_⟩
        refine i_itb (fun h1 => ?_) (fun h1 => ?_)
        · have h1 : isK i [1, 2, 4, 3] = false := by revert h1; cases isK i [1, 2, 4, 3] <;> simp
          exact k.bad (if_neg (fun z => z.elim h0 fun z => by rw [h1] at z; cases z)) (s1.trans s2)
        · have h1 : isK i [1, 2, 4, 3] = true := by revert h1; cases isK i [1, 2, 4, 3] <;> simp
          exact fin (.inr h1) _ (s1.trans s2)
      · exact fin (.inl h0) _ s1
    · refine k.2 z ?_ d H1 s1 hd
      unfold roomBad; rw [e]
def spPart (a : Ad) : Sp := fun vs H Q E => ∃ x dx nm y i, vs = [.ref x, nm, y] ∧ H x = some (.ins (a.C 7) dx []) ∧ Th H nm ∧ Sh nm ∧ Itm a H y i ∧ SpI (a.C 7) a.bad (partBad nm i) [("name", nm), ("kind", y)] x dx H Q E
theorem ok_Part (T : Txt K mg a) : FnOk P w K mg base (L2.CX P w) 4 (a.I 7).f (a.I 7).fd ["self", "name", "kind"] (spPart a) := by
  have G_is_name : FnOk P w K mg base CX0 1 a.is_name.f a.is_name.fd ["thing"] (spIsName True) := ok_is_name T
  have G_is_simple : FnOk P w K mg base CX0 1 a.is_simple.f a.is_simple.fd ["thing"] (spSimple a) := ok_simple T
  have sc : FnScope ["self", "name", "kind"] ["self", "name", "kind"] (defScope (inClass (top 18) 0)) := ⟨rfl, rfl, rfl, by decide +kernel, rfl, by decide +kernel, by decide +kernel⟩
  refine ok0x T.I7 sc (fun vs H Q E h => ?_) (fun cdv A outer s H vs Q E hr h => ?_)
  · obtain ⟨x, dx, nm, y, i, rfl, _⟩ := h
    rfl
  · obtain ⟨x, dx, nm, y, i, rfl, hx, hn, sn, hy, k⟩ := h
    have tk : Takes (cxOf (L2.CX P w) P w K mg base ["self", "name", "kind"] "Part.__init__" (defScope (inClass (top 18) 0)) (a.I 7).f cdv A outer s H E) (fun cls d _ H => E cls d H) := takes_of rfl rfl rfl rfl
    have kc := T.kc 7 (by decide)
    refine ⟨_, (pss_cons (ps_if (pt_not (pt_val (pe_call G_is_name (hr.mono (by first | decide | omega)) rfl T.is_name.mg T.is_name.kp T.is_name.b .nil pass0 (pa_cons (pv 1) pa_nil))))
      (pss_one (ps_bad T.bad rfl (hr.mono (by decide)) tk))
      pss_nil)
      (pss_cons (ps_if (pt_not (pt_val (pe_call G_is_simple (hr.mono (by first | decide | omega)) rfl T.is_simple.mg T.is_simple.kp T.is_simple.b .nil pass0 (pa_cons (pv 2) pa_nil))))
      (pss_one (ps_bad T.bad rfl (hr.mono (by decide)) tk))
      pss_nil)
      (pss_cons (ps_fld (pv 0) (pv 1) rfl)
      (pss_one (ps_fld (pv 0) (pv 2) rfl))))), ?_⟩
    walk_at "go"
    refine ⟨nm, rfl, hn, sn, fun H1 s1 => ?_⟩
    refine ⟨_, rfl, ?_⟩
    refine i_itb (fun h1 => ?_) (fun h1 => ?_)
    · exact k.bad (if_neg (fun z => by rw [z] at h1; cases h1)) s1
    · have h1 : nameV nm = true := by revert h1; cases nameV nm <;> simp
      have ek : partBad nm i = if isK i [1, 2, 4, 3] = true then none else some ("kind" : Str) := if_pos h1
      rw [ek] at k
      walk_at "go"
      refine ⟨_, _, rfl, hy.same s1, fun H2 s2 => ?_⟩
      have s12 := s1.trans s2
      refine ⟨_, rfl, ?_⟩
      refine i_itb (fun h2 => ?_) (fun h2 => ?_)
      · exact k.bad (if_neg (fun z => by rw [z] at h2; cases h2)) s12
      · have h2 : isK i [1, 2, 4, 3] = true := by revert h2; cases isK i [1, 2, 4, 3] <;> simp
        walk_at "go"
        dsimp only
        refine i_sfld ?_
        walk_at "go"
        refine ⟨x, _, dx, [], rfl, s12 _ _ hx, kc.cl, kc.no _ (by decide), by decide, ?_⟩
        dsimp only
        refine i_sfld ?_
        walk_at "go"
        refine ⟨x, _, dx, [("name", nm)], rfl, upd_same, kc.cl, kc.no _ (by decide), (by show (1 : Nat) < 1000; decide), ?_⟩
        exact k.1 (if_pos h2) _ (Kept.upd (Kept.upd fun b o _ e => s12 b o e)) upd_same
end
end Me
set_option maxHeartbeats 8000000
namespace Me
open PySem L2 PyProof.Rows PySem.Spec
/-! ### set comprehensions of texts and integers -/
/-- {elt for target in iter if ..}: D the new set -/
def tScK (P : Program) (w : World) (wi : TI) (g : TG) (tt : TT) (te : TE) (vs : List Nat) : TE := fun σ H Q => wi σ H fun J H1 => ∀ D, H1 D = none → ∃ W : Nat → Nat → Hp → Prop, (∃ m, W 0 m (upd H1 D (SetK P w D (fun _ => false) 0))) ∧ ∀ i m H, W i m H →
  (J.stop i H ∧ Q (.ref D) H) ∨ (J.go i H ∧ ∃ Nx : Hp → Prop, (∀ H', Nx H' → ∃ m', m' < m ∧ W (i + 1) m' H') ∧ ∀ x H', J.yld i H x H' → g x (wipe σ vs) H' fun σ2 H2 => wipe σ2 vs = wipe σ vs ∧ tt σ2 H2 fun b H3 =>
    if b = true then te σ2 H3 fun y H4 => rSAddK P w (.ref D) [y] H4 fun _ H5 => Nx H5 else Nx H3)
/-- an empty set at the end of a heap -/
theorem set_new {P : Program} {w : World} {h : Heap} : (h.push { cls := .type "set", dict := none, data := .set #[] 0 (.fresh 0 0 (!w.params.followText "set-order")) }).SetOf (mixKind P w) h.objs.size (fun _ => false) 0 :=
  ⟨_, #[], 0, _, Heap.get?_push_size _ rfl, ⟨rfl, rfl, rfl⟩, rfl, (fun e he => by simp at he), (fun k => by simp), (by decide), (by rfl), rfl⟩
section
variable {X : Cx}
/-- what holds at each turn of the block -/
def Turn (Z : Cx) (σ0 : L2.St) (fp : List Addr) (tn : Nat → Heap → Prop) (W : Nat → Nat → Hp → Prop) (n : Nat) (s : Shared) : Prop :=
  ∃ i H', Inv Z [] σ0 H' s ∧ tn i s.heap ∧ (∀ b ∈ fp, H' b = none) ∧ W i n H'
theorem pe_scK {elt tg iter : Expr} {ifs : List Expr} {scope : Scope} {own : List (PySem.Str × Nat)} {pos : Pos} {wi : TI} {g : TG} {tt : TT} {te : TE} (hc : X.calm = true) (hN : X.N.Nodup) (hi : PI X tg iter wi) (ok : BlkOk X.N X.env.scope scope own)
    (hg : ∀ (s : Shared) (H : Hp) (C : Addr) (cl : List (PySem.Str × Addr)) (fp : List Addr), PG (X.blk s H scope (compEnvC scope cl C X.env) fp) tg g) (ht : ∀ (s : Shared) (H : Hp) (C : Addr) (cl : List (PySem.Str × Addr)) (fp : List Addr), PTs (X.blk s H scope (compEnvC scope cl C X.env) fp) ifs tt)
    (he : ∀ (s : Shared) (H : Hp) (C : Addr) (cl : List (PySem.Str × Addr)) (fp : List Addr), PE (X.blk s H scope (compEnvC scope cl C X.env) fp) elt te) (hs : ∀ x, foldedSetIterable iter X.env x = pure x := by intro _; rfl) :
    PE X (.SetComp elt [⟨tg, iter, ifs, 0⟩] scope pos) (tScK X.prog X.w wi g tt te (own.map (·.2))) := by
  refine ⟨fun pins s σ H Q I h => ?_⟩
  rw [PpSet.eval_SetComp]
  have closed : ∀ y ∈ scope.names, y.2 = .free → ∃ c, X.env.cells.lookup y.1 = some c := by
    intro y hy e
    rcases ok.free y hy e with k | k
    · exact I.ok.has _ (.inl k)
    · exact I.ok.has _ (.inr k)
  refine wpAny_comprehension_free (use := none) rfl hs (closure_ok closed) ok.kind (fun y hy e => by rw [ok.uniq y hy, e]) ?_
  refine thn (hi.run pins s σ H _ I h) fun xv s1 hx => thn hx fun itv s2 ⟨it, fp, tn, J, H2, e, I2, T, st2, f2, q⟩ => ?_
  subst e
  refine PpSet.newSet_ok (newEnv_comp ?_)
  -- the new set
  have noD : H2 s2.heap.objs.size = none := I2.hok.fresh (Nat.le_refl _)
  obtain ⟨W, ⟨m0, w0⟩, turn⟩ := q s2.heap.objs.size noD
  have I3 : Inv X pins σ (upd H2 s2.heap.objs.size (SetK X.prog X.w s2.heap.objs.size (fun _ => false) 0)) { s2 with heap := s2.heap.push { cls := .type "set", dict := none, data := .set #[] 0 (.fresh 0 0 (!X.w.params.followText "set-order")) } } :=
    I2.laid (t' := s2.toks) (fun b o e => Heap.get?_push_of_some _ e) (Nat.le_refl _) (setK_new set_new)
  have ltD : ∀ b ∈ fp, b < s2.heap.objs.size := fun b hb => by
    obtain ⟨o, e, _⟩ := T.obj _ _ st2 b hb
    exact Heap.lt_size e
  have keepT : ∀ b o, s2.heap.get? b = some o → ({ s2 with heap := s2.heap.push { cls := .type "set", dict := none, data := .set #[] 0 (.fresh 0 0 (!X.w.params.followText "set-order")) } } : Shared).heap.get? b = some o := fun b o e => Heap.get?_push_of_some _ e
  have st3 := T.keep _ _ _ st2 fun b _ o e => keepT b o e
  have szD : s2.heap.objs.size < ({ s2 with heap := s2.heap.push { cls := .type "set", dict := none, data := .set #[] 0 (.fresh 0 0 (!X.w.params.followText "set-order")) } } : Shared).heap.objs.size := by
    show _ < (s2.heap.push _).objs.size
    rw [Heap.size_push]; exact Nat.lt_succ_self _
  generalize hD : s2.heap.objs.size = D at noD w0 turn I3 ltD szD
  generalize hs3 : ({ s2 with heap := s2.heap.push { cls := .type "set", dict := none, data := .set #[] 0 (.fresh 0 0 (!X.w.params.followText "set-order")) } } : Shared) = s3 at I3 st3 szD ⊢
  generalize hH3 : upd H2 D (SetK X.prog X.w D (fun _ => false) 0) = H3 at w0 I3
  have f3 : ∀ b ∈ fp, FpOk X pins H3 b ∧ b < s3.heap.objs.size := fun b hb =>
    ⟨⟨by rw [← hH3, upd_ne (Nat.ne_of_lt (ltD b hb))]; exact (f2 b hb).1, (f2 b hb).2⟩, Nat.lt_trans (ltD b hb) szD⟩
  have I4 := block_start I3 ok hN f3
  have pg := hg s3 H3 s3.heap.objs.size (cellsFrom (s3.heap.objs.size + 1) scope.names (cloFrom X.env.cells scope.names [])) fp
  have pt := ht s3 H3 s3.heap.objs.size (cellsFrom (s3.heap.objs.size + 1) scope.names (cloFrom X.env.cells scope.names [])) fp
  have pe := he s3 H3 s3.heap.objs.size (cellsFrom (s3.heap.objs.size + 1) scope.names (cloFrom X.env.cells scope.names [])) fp
  change codeAny _ _ (.compStart _ 0 (.ref it) (.ref D) (compEnvC scope (cellsFrom (s3.heap.objs.size + 1) scope.names (cloFrom X.env.cells scope.names [])) s3.heap.objs.size X.env)) (compPost (model X.prog X.w) X.A X.xe none (EP X pins σ Q) (.ref D) s3.heap.objs.size) { s3 with heap := pushCells (s3.heap.push { cls := .type "dict", data := .dict #[] }) scope.names }
  have loc : (compEnvC scope (cellsFrom (s3.heap.objs.size + 1) scope.names (cloFrom X.env.cells scope.names [])) s3.heap.objs.size X.env).locals = s3.heap.objs.size := rfl
  generalize compEnvC scope (cellsFrom (s3.heap.objs.size + 1) scope.names (cloFrom X.env.cells scope.names [])) s3.heap.objs.size X.env = ce at I4 pg pt pe loc ⊢
  have st4 : tn 0 (pushCells (s3.heap.push { cls := .type "dict", data := .dict #[] }) scope.names) := T.keep _ _ _ st3 fun b _ o e => pushCells_keeps _ _ _ _ (Heap.get?_push_of_some _ e)
  generalize hs4 : ({ s3 with heap := pushCells (s3.heap.push { cls := .type "dict", data := .dict #[] }) scope.names } : Shared) = s4 at I4 ⊢
  have st4 : tn 0 s4.heap := by rw [← hs4]; exact st4
  -- the iterator's objects stay foreign to the block
  have far : ∀ {σ' : L2.St} {H' : Hp} {s' : Shared}, L2.Inv (X.blk s3 H3 scope ce fp) [] σ' H' s' → (∀ b ∈ fp, H' b = none) → ∀ b ∈ fp, FpOk (X.blk s3 H3 scope ce fp) [] H' b := by
    intro σ' H' s' I' hn b hb
    exact ⟨hn b hb, (I'.ok.exf b hb).1, I'.ok.exfs b hb, .inl hb, fun x c e => (I'.ok.exf b hb).2 x c e, fun p hp => absurd (show p ∈ ([] : List (Addr × Obj)) ++ [] from hp) (by simp)⟩
  refine PpSet.codeAny_compStart_set ?_ (T.self X.A 0 _ _ _ st4 ?_)
  all_goals
    refine PpSet.compLoopS_any (Turn (X.blk s3 H3 scope ce fp) (wipe σ (own.map (·.2))) fp tn W) (fun n s5 h5 => ?_) m0 ⟨0, H3, I4, st4, fun b hb => (f3 b hb).1.1, w0⟩
    obtain ⟨i, H5, I5, st5, n5, w5⟩ := h5
    rcases turn i n H5 w5 with ⟨stop, fin⟩ | ⟨go, Nx, less, step⟩
    · refine thnF (T.done (X.blk s3 H3 scope ce fp) rfl rfl rfl hc i [] s5 _ H5 (fun _ _ => False) I5 (far I5 n5) st5 stop) fun r s6 ⟨hr, I6⟩ => ?_
      subst hr
      have I7 : L2.Inv X pins σ H5 s6 := I3.call' (ch := fp) I6.os I6.base I6.hok I6.bare fun b hb => ⟨(f3 b hb).1.2.2.2.1, (f3 b hb).1.2.1, (f3 b hb).1.2.2.2.2.1, (f3 b hb).1.2.2.2.2.2⟩
      have nC : H5 s3.heap.objs.size = none := by rw [← loc]; exact I6.free
      obtain ⟨m, hn, _⟩ := I6.loc
      have hn : s6.heap.Ns s3.heap.objs.size m := by rw [← loc]; exact hn
      obtain ⟨f0, f1, f2, f3, f4, f5⟩ := I3.fpOk (Nat.le_refl _) nC
      exact ⟨m, hn, fun h'' sb => ⟨.ref D, H5, I7.turned (t' := s6.toks) (fun b o hb e => (sb.2 b hb).trans e) f0 f1 f3 f4 f5, rfl, fin⟩⟩
    · refine thnF (T.item (X.blk s3 H3 scope ce fp) rfl rfl rfl hc i [] s5 _ H5 (fun _ _ => False) I5 (far I5 n5) st5 go) fun r s6 ⟨u, hr, h6⟩ => ?_
      subst hr
      refine thnF h6 fun _ s7 ⟨x, H7, I7, r7, y7, st7, n7⟩ => ?_
      refine thnF (pg.run _ s7 _ H7 x u _ (I7.pinned (far I7 n7) (T.obj _ _ st7)) r7 (step x H7 y7)) fun _ s8 ⟨σ8, H8, I8, same, q8⟩ => ?_
      refine thnF (pt.run _ s8 σ8 H8 _ I8 q8) fun b s9 ⟨H9, I9, q9⟩ => ?_
      have next : ∀ {s' : Shared} {H' : Hp}, L2.Inv (X.blk s3 H3 scope ce fp) ([] ++ pinsAt fp s7.heap) σ8 H' s' → Nx H' → ∃ m, m < n ∧ Turn (X.blk s3 H3 scope ce fp) (wipe σ (own.map (·.2))) fp tn W m s' := by
        intro s' H' I' nx
        obtain ⟨m', lt, w'⟩ := less H' nx
        have stays : ∀ b ∈ fp, ∀ o, s7.heap.get? b = some o → s'.heap.get? b = some o ∧ H' b = none := fun b hb o e =>
          have z := I'.pin (b, o) (List.mem_append_right _ (List.mem_append_right _ (mem_pinsAt hb e)))
          ⟨z.1, z.2.1⟩
        refine ⟨m', lt, i + 1, H', (I'.unpinned (pins := [])).weak (by rw [← same, wipe_length]) (fun j v e => ?_), T.keep _ _ _ st7 fun b hb o e => (stays b hb o e).1, fun b hb => ?_, w'⟩
        · rw [← same] at e; exact (wipe_some e).1
        · obtain ⟨o, e, _⟩ := T.obj _ _ st7 b hb
          exact (stays b hb o e).2
      cases b with
      | false => exact next I9 q9
      | true =>
        refine thnF (pe.run _ s9 σ8 H9 _ I9 q9) fun z s10 ⟨yv, H10, I10, r10, q10⟩ => ?_
        refine thnF (mt_saddK _ s10 σ8 H10 (.ref D) [yv] (.ref D) [z] _ I10 rfl (.cons r10 .nil) q10) fun v s11 ⟨_, H11, I11, _, nx⟩ => ?_
        exact next I11 nx
/-- len of a set of texts or integers -/
theorem call_lenK : CallR X (.builtin "len") (fun xs H Q => ∃ (a : Addr) (S : Key → Bool) (n : Nat), xs = [.ref a] ∧ H a = some (SetK X.prog X.w a S n) ∧ Q (.int n) H) := by
  intro pins s σ H xs us Q I r h
  obtain ⟨a, S, n, rfl, ha, q⟩ := h
  cases r with
  | cons r rr =>
    cases rr
    cases r
    obtain ⟨o, es, ep, t, ho, hex, hd, _, _, hb, hf, hn⟩ := setK_get I ha
    subst hn
    have small : (es.size : Int) < 2 ^ 63 := by
      have e : scanBound < 2 ^ 63 := by decide +kernel
      have e2 : es.size < 2 ^ 63 := Nat.lt_trans hb e
      exact_mod_cast e2
    exact call_len_set ho hex hd hf small ⟨.int es.size, H, I.tok _, ⟨_, rfl⟩, q⟩
end
/-- over a list that the block leaves as it is -/
theorem sck_list {P : Program} {w : World} {K : PySem.W.Frag} {a : Addr} {xs : List V} {g : TG} {tt : TT} {te : TE} {vs : List Nat} {σ : L2.St} {H1 : Hp} {D : Addr} {Qd : Hp → Prop} (Pv : Nat → Hp → Prop) (h0 : Pv 0 (upd H1 D (SetK P w D (fun _ => false) 0)))
    (hl : ∀ i H, i ≤ xs.length → Pv i H → SqL K H a xs)
    (hs : ∀ i x H, xs[i]? = some x → Pv i H → g x (wipe σ vs) H fun σ2 H2 => wipe σ2 vs = wipe σ vs ∧ tt σ2 H2 fun b H3 => if b = true then te σ2 H3 fun y H4 => rSAddK P w (.ref D) [y] H4 fun _ H5 => Pv (i + 1) H5 else Pv (i + 1) H3) (hd : ∀ H, Pv xs.length H → Qd H) :
    ∃ W : Nat → Nat → Hp → Prop, (∃ m, W 0 m (upd H1 D (SetK P w D (fun _ => false) 0))) ∧ ∀ i m H, W i m H →
      ((Itl K a).stop i H ∧ Qd H) ∨ ((Itl K a).go i H ∧ ∃ Nx : Hp → Prop, (∀ H', Nx H' → ∃ m', m' < m ∧ W (i + 1) m' H') ∧ ∀ x H', (Itl K a).yld i H x H' → g x (wipe σ vs) H' fun σ2 H2 => wipe σ2 vs = wipe σ vs ∧ tt σ2 H2 fun b H3 =>
        if b = true then te σ2 H3 fun y H4 => rSAddK P w (.ref D) [y] H4 fun _ H5 => Nx H5 else Nx H3) := by
  refine ⟨fun i m H => m + i = xs.length ∧ Pv i H, ⟨xs.length, rfl, h0⟩, fun i m H h => ?_⟩
  obtain ⟨hm, p⟩ := h
  have q := hl i H (by omega) p
  cases m with
  | zero =>
    have e : i = xs.length := by omega
    subst e
    exact .inl ⟨⟨xs, q, Nat.le_refl _⟩, hd H p⟩
  | succ m =>
    have lt : i < xs.length := by omega
    refine .inr ⟨⟨xs, xs[i], q, List.getElem?_eq_getElem lt⟩, Pv (i + 1), fun H' p' => ⟨m, Nat.lt_succ_self m, by omega, p'⟩, fun x H' y => ?_⟩
    obtain ⟨rfl, y⟩ := y
    exact hs i x _ (y xs q) p
end Me
set_option maxHeartbeats 8000000
namespace Me
open PySem L2


/-! ### a list or a tuple -/
def Sq (K : PySem.W.Frag) (H : Hp) (a : Addr) (xs : List V) : Prop := SqL K H a xs ∨ SqT K H a xs
theorem Sq.same {K : PySem.W.Frag} {H H' : Hp} {a : Addr} {xs : List V} (h : Sq K H a xs) (s : Same H H') : Sq K H' a xs := h.elim (fun h => .inl (SqL.ext h s)) fun h => .inr (SqT.ext h s)
def iSq (K : PySem.W.Frag) (j : Nat) : TI := fun σ H R => ∃ a, σ[j]? = some (some (.ref a)) ∧ (((∃ xs, SqL K H a xs) ∧ R (Itl K a) H) ∨ ((∃ xs, SqT K H a xs) ∧ R (Itt K a) H))
theorem pi_sqv {X : Cx} {tg l : Expr} {j : Nat} (hl : PE X l (tVar j)) : PI X tg l (iSq X.K j) := by
  refine ⟨fun pins s σ H R I h => ?_⟩
  obtain ⟨a, e, h⟩ := h
  rcases h with ⟨x, r⟩ | ⟨x, r⟩
  · exact (pi_list hl).run pins s σ H R I ⟨_, e, a, rfl, x, r⟩
  · exact (pi_tup hl).run pins s σ H R I ⟨_, e, a, rfl, x, r⟩
/-- everything stays, but lists may change their items -/
def Soft (H H' : Hp) : Prop := ∀ b o, H b = some o → H' b = some o ∨ ∃ l l', o = .lst l ∧ H' b = some (.lst l')
theorem Same.soft {H H' : Hp} (s : Same H H') : Soft H H' := fun b o e => .inl (s b o e)
theorem Soft.trans {H H1 H2 : Hp} (a : Soft H H1) (b : Soft H1 H2) : Soft H H2 := fun c o e => by
  rcases a c o e with h | ⟨l, l', rfl, h⟩
  · exact b c o h
  · rcases b c _ h with h | ⟨_, l2, e2, h⟩
    · exact .inr ⟨l, l', rfl, h⟩
    · exact .inr ⟨l, l2, rfl, h⟩
theorem soft_upd {H : Hp} {D : Addr} {l l' : List V} (e : H D = some (.lst l)) : Soft H (upd H D (.lst l')) := fun b o h => by
  by_cases q : b = D
  · subst q
    rw [e] at h; cases h
    exact .inr ⟨l, l', rfl, upd_same⟩
  · exact .inl (by rw [upd_ne q]; exact h)
theorem Soft.ins {H H' : Hp} {b : Addr} {o : HO} (s : Soft H H') (h : H b = some o) (n : ∀ l, o ≠ .lst l) : H' b = some o := (s b o h).elim id fun ⟨l, _, e, _⟩ => absurd e (n l)
theorem went_soft {p : Addr} {H H' : Hp} (S : StOk H p) (w : Went p H H') : Soft H H' := fun b o e => by
  by_cases q : b = p
  · subst q
    obtain ⟨L, ns, i, x, c, e1, _⟩ := S
    obtain ⟨L2, ns2, i2, x2, c2, e2, _⟩ := w.1
    rw [e1] at e; cases e
    exact .inr ⟨_, _, rfl, e2⟩
  · exact .inl (w.2.1 b o q e)
theorem Th.soft {H H' : Hp} {v : V} (h : Th H v) (s : Soft H H') : Th H' v := by
  cases h with
  | non => exact .non
  | bl b => exact .bl b
  | int i => exact .int i
  | str x => exact .str x
  | tup h => exact .tup (s.ins h fun _ z => by cases z)
  | lst h =>
    rcases s _ _ h with h | ⟨_, l', _, h⟩
    · exact .lst h
    · exact .lst h
  | dK h => exact .dK (s.ins h fun _ z => by cases z)
theorem Itm.soft {a : Ad} {H H' : Hp} {v : V} {k : Option Nat} (h : Itm a H v k) (s : Soft H H') : Itm a H' v k := by
  cases h with
  | th h => exact .th (h.soft s)
  | ins hi h => exact .ins hi (s.ins h fun _ z => by cases z)
/-- [te for x in a list or tuple], each turn only makes objects -/
theorem many_lc {K : PySem.W.Frag} {te : TE} {σ : L2.St} {H : Hp} {Q : VK} {a : Addr} {j k : Nat} {xs : List V} (Rl : Nat → V → Hp → Prop) (mono : ∀ i y H H', Soft H H' → Rl i y H → Rl i y H') (h0 : σ[j]? = some (some (.ref a))) (ha : Sq K H a xs) (sm : xs.length < sizeLine)
    (hw : ∀ x, wipe ((wipe σ [k]).set k (some x)) [k] = wipe σ [k])
    (st : ∀ i x H1 (R : VK), xs[i]? = some x → Same H H1 → (∀ y H4, Same H1 H4 → Rl i y H4 → R y H4) → te ((wipe σ [k]).set k (some x)) H1 R)
    (kk : ∀ D ys H', H D = none → Same H H' → H' D = some (.lst ys) → ys.length = xs.length → (∀ i y, ys[i]? = some y → Rl i y H') → Q (.ref D) H') : tLc (iSq K j) (gName k) tYes te [k] σ H Q := by
  have key : ∀ D, H D = none → ∀ i x H1 (Pn : Hp → Prop), xs[i]? = some x → (Same H H1 ∧ ∃ ys, H1 D = some (.lst ys) ∧ ys.length = i ∧ ∀ i y, ys[i]? = some y → Rl i y H1) →
      (∀ H2, (Same H H2 ∧ ∃ ys, H2 D = some (.lst ys) ∧ ys.length = i + 1 ∧ ∀ i y, ys[i]? = some y → Rl i y H2) → Pn H2) →
      gName k x (wipe σ [k]) H1 fun σ2 H2 => wipe σ2 [k] = wipe σ [k] ∧ tYes σ2 H2 fun b H3 => if b = true then te σ2 H3 fun y H4 => ∃ acc, H4 D = some (.lst acc) ∧ acc.length < sizeLine ∧ Pn (upd H4 D (.lst (acc ++ [y]))) else Pn H3 := by
    rintro D nD i x H1 Pn hx ⟨s1, ys, e, hl, hr⟩ hP
    refine ⟨hw x, ?_⟩
    unfold tYes
    with_reducible refine L2.iteT ?_
    refine st i x H1 _ hx s1 fun y H4 s4 r => ?_
    have lt : i < xs.length := by
      rcases Nat.lt_or_ge i xs.length with h | h
      · exact h
      · rw [List.getElem?_eq_none h] at hx; cases hx
    have e4 := s4 _ _ e
    have so : Soft H4 (upd H4 D (.lst (ys ++ [y]))) := soft_upd e4
    refine ⟨ys, e4, by omega, hP _ ⟨?_, ys ++ [y], upd_same, by rw [List.length_append, hl]; rfl, ?_⟩⟩
    · intro b o hb
      rw [upd_ne (ne_of_none hb nD)]
      exact s4 _ _ (s1 _ _ hb)
    · intro i' y' hy
      by_cases q : i' < ys.length
      · rw [List.getElem?_append_left q] at hy
        exact mono _ _ _ _ so (mono _ _ _ _ (Same.soft s4) (hr i' y' hy))
      · rw [List.getElem?_append_right (by omega)] at hy
        have z : i' - ys.length = 0 := by
          rcases Nat.eq_zero_or_pos (i' - ys.length) with h | h
          · exact h
          · rw [List.getElem?_eq_none (by show 1 ≤ _; omega)] at hy; cases hy
        rw [z] at hy
        cases hy
        have : i' = i := by omega
        subst this
        exact mono _ _ _ _ so r
  rcases ha with ha | ha
  · refine ⟨a, h0, .inl ⟨⟨_, ha⟩, fun D nD => ?_⟩⟩
    refine lc_list (xs := xs) (fun i H' => Same H H' ∧ ∃ ys, H' D = some (.lst ys) ∧ ys.length = i ∧ ∀ i y, ys[i]? = some y → Rl i y H') ⟨same_new same_rfl nD, [], upd_same, rfl, fun i y h => by cases h⟩ (fun i H1 _ p => SqL.ext ha p.1) (fun i x H1 hx p => key D nD i x H1 _ hx p fun _ z => z) ?_
    rintro H1 ⟨s1, ys, e, hl, hr⟩
    exact kk D ys H1 nD s1 e hl hr
  · refine ⟨a, h0, .inr ⟨⟨_, ha⟩, fun D nD => ?_⟩⟩
    refine lc_tup (xs := xs) (fun i H' => Same H H' ∧ ∃ ys, H' D = some (.lst ys) ∧ ys.length = i ∧ ∀ i y, ys[i]? = some y → Rl i y H') ⟨same_new same_rfl nD, [], upd_same, rfl, fun i y h => by cases h⟩ (fun i H1 _ p => SqT.ext ha p.1) (fun i x H1 hx p => key D nD i x H1 _ hx p fun _ z => z) ?_
    rintro H1 ⟨s1, ys, e, hl, hr⟩
    exact kk D ys H1 nD s1 e hl hr
/-- over a tuple that the block leaves as it is -/
theorem sck_tup {P : Program} {w : World} {K : PySem.W.Frag} {a : Addr} {xs : List V} {g : TG} {tt : TT} {te : TE} {vs : List Nat} {σ : L2.St} {H1 : Hp} {D : Addr} {Qd : Hp → Prop} (Pv : Nat → Hp → Prop) (h0 : Pv 0 (upd H1 D (SetK P w D (fun _ => false) 0)))
    (hl : ∀ i H, i ≤ xs.length → Pv i H → SqT K H a xs)
    (hs : ∀ i x H, xs[i]? = some x → Pv i H → g x (wipe σ vs) H fun σ2 H2 => wipe σ2 vs = wipe σ vs ∧ tt σ2 H2 fun b H3 => if b = true then te σ2 H3 fun y H4 => rSAddK P w (.ref D) [y] H4 fun _ H5 => Pv (i + 1) H5 else Pv (i + 1) H3) (hd : ∀ H, Pv xs.length H → Qd H) :
    ∃ W : Nat → Nat → Hp → Prop, (∃ m, W 0 m (upd H1 D (SetK P w D (fun _ => false) 0))) ∧ ∀ i m H, W i m H →
      ((Itt K a).stop i H ∧ Qd H) ∨ ((Itt K a).go i H ∧ ∃ Nx : Hp → Prop, (∀ H', Nx H' → ∃ m', m' < m ∧ W (i + 1) m' H') ∧ ∀ x H', (Itt K a).yld i H x H' → g x (wipe σ vs) H' fun σ2 H2 => wipe σ2 vs = wipe σ vs ∧ tt σ2 H2 fun b H3 =>
        if b = true then te σ2 H3 fun y H4 => rSAddK P w (.ref D) [y] H4 fun _ H5 => Nx H5 else Nx H3) := by
  refine ⟨fun i m H => m + i = xs.length ∧ Pv i H, ⟨xs.length, rfl, h0⟩, fun i m H h => ?_⟩
  obtain ⟨hm, p⟩ := h
  have q := hl i H (by omega) p
  cases m with
  | zero =>
    have e : i = xs.length := by omega
    subst e
    exact .inl ⟨⟨xs, q, Nat.le_refl _⟩, hd H p⟩
  | succ m =>
    have lt : i < xs.length := by omega
    refine .inr ⟨⟨xs, xs[i], q, List.getElem?_eq_getElem lt⟩, Pv (i + 1), fun H' p' => ⟨m, Nat.lt_succ_self m, by omega, p'⟩, fun x H' y => ?_⟩
    obtain ⟨rfl, y⟩ := y
    exact hs i x _ (y xs q) p
end Me
set_option maxHeartbeats 8000000
namespace Me
open PySem L2


/-- an instance with a name -/
def Nm (K : PySem.W.Frag) (H : Hp) (v : V) (f : Str) (z : Str) : Prop := ∃ p C dx fs, v = .ref p ∧ H p = some (.ins C dx fs) ∧ Cls K C ∧ NoAttr K C f ∧ fs.lookup f = some (.str z)
theorem Nm.soft {K : PySem.W.Frag} {H H' : Hp} {v : V} {f z : Str} (h : Nm K H v f z) (s : Soft H H') : Nm K H' v f z := by
  obtain ⟨p, C, dx, fs, e, h, r⟩ := h
  exact ⟨p, C, dx, fs, e, s.ins h (fun _ z => by cases z), r⟩
theorem take_get {α : Type} {ns : List α} {i : Nat} {z : α} (h : ns[i]? = some z) : ns.take (i + 1) = ns.take i ++ [z] := by
  obtain ⟨lt, e⟩ := List.getElem?_eq_some_iff.mp h
  rw [← e]
  exact (List.take_append_getElem lt).symm
def clash (x y : Str) : Bool := Txt.startswith x y || Txt.startswith y x
theorem clash_comm (x y : Str) : clash x y = clash y x := Bool.or_comm _ _
def Apart (ws : List Str) : Prop := ws.Pairwise fun x y => clash x y = false
theorem cutV_nat (xs : List V) (k : Nat) (h : k ≤ xs.length) : cutV xs (some (k : Int)) none = xs.drop k := by
  unfold cutV
  rw [HT.sIx_none, HT.sIx_nat, Nat.min_eq_left h]
  exact List.take_of_length_le (by rw [List.length_drop]; exact Nat.le_refl _)
section
variable {P : Program} {w : World} {K : PySem.W.Frag} {mg : Str → Option Value} {base : Heap} {a : Ad}
def spUnlike (K : PySem.W.Frag) : Sp := fun vs H Q _ => ∃ (A : Addr) (xs : List V) (ns : List Str), vs = [.ref A] ∧ Sq K H A xs ∧ xs.length = ns.length ∧ xs.length ≤ 100 ∧ (∀ (i : Nat) x, xs[i]? = some x → ∃ z, ns[i]? = some z ∧ Nm K H x "name" z) ∧ ∀ (b : Bool) H', (b = true ↔ ns.Nodup) → Same H H' → Q (.bl b) H'
theorem ok_unlike (T : Txt K mg a) : FnOk P w K mg base CX0 1 a.have_unlike_names.f a.have_unlike_names.fd ["things"] (spUnlike K) := by
  have sc : FnScope ["things", "thing"] ["things"] (defScope (top 25)) := ⟨rfl, rfl, rfl, by decide +kernel, rfl, by decide +kernel, by decide +kernel⟩
  refine T.have_unlike_names.ok sc (fun vs H Q E h => ?_) (fun cdv A' outer s H vs Q E hr h => ?_)
  · obtain ⟨A, xs, ns, rfl, _⟩ := h
    rfl
  · obtain ⟨A, xs, ns, rfl, hA, hl, h100, hn, k⟩ := h
    refine ⟨_, (pss_one (ps_ret (pe_cmpR op_eq (pe_callB call_lenK (by rfl) T.len PySem.boot_len (pa_cons (pe_scK (te := tFld K (tVar 1) "name") (own := [("thing", 1)]) (g := gName 1) (by rfl) sc.nd (pi_sqv (pv 0)) (blkOk_by (own := [("thing", 1)]) (N := ["things", "thing"]) (sc := defScope (top 25)) (by decide +kernel)) (fun _ _ _ _ _ => pg_name (i := 1) sc.nd rfl (Or.inl rfl)) (fun _ _ _ _ _ => pts_nil) (fun _ _ _ _ _ => (by exact (pe_fld (pv 1) rfl)))) pa_nil)) (pe_callB call_len_seq (by rfl) T.len PySem.boot_len (pa_cons (pv 0) pa_nil)) (nomark _)))), ?_⟩
    walk_at "go"
    have inv : ∀ D, H D = none → ∀ (i : Nat) x H1 (Pn : Hp → Prop), xs[i]? = some x → (∃ S n, H1 = upd H D (SetK P w D S n) ∧ (∀ z, S (.inr z) = true ↔ z ∈ ns.take i) ∧ n ≤ i ∧ (n = i ↔ (ns.take i).Nodup)) →
        (∀ S n, ((∀ z, S (.inr z) = true ↔ z ∈ ns.take (i + 1)) ∧ n ≤ i + 1 ∧ (n = i + 1 ↔ (ns.take (i + 1)).Nodup)) → Pn (upd H D (SetK P w D S n))) →
        gName 1 x (wipe (L2.start ["things", "thing"] [.ref A]) [1]) H1 fun σ2 H2 => wipe σ2 [1] = wipe (L2.start ["things", "thing"] [.ref A]) [1] ∧ tYes σ2 H2 fun b H3 => if b = true then tFld K (tVar 1) "name" σ2 H3 fun y H4 => rSAddK P w (.ref D) [y] H4 fun _ H5 => Pn H5 else Pn H3 := by
      rintro D nD i x H1 Pn hx ⟨S, n, rfl, hS, hni, hnd⟩ hP
      refine ⟨rfl, ?_⟩
      unfold tYes
      with_reducible refine L2.iteT ?_
      obtain ⟨z, hz, p, C, dx, fs, rfl, hp, cl, no, lk⟩ := hn i x hx
      have np : p ≠ D := ne_of_none hp nD
      have lt : i < xs.length := by
        rcases Nat.lt_or_ge i xs.length with h | h
        · exact h
        · rw [List.getElem?_eq_none h] at hx; cases hx
      refine ⟨_, rfl, p, C, dx, fs, .str z, rfl, by rw [upd_ne np]; exact hp, cl, no, lk, ?_⟩
      refine ⟨D, .inr z, S, n, rfl, rfl, upd_same, Nat.lt_of_le_of_lt (by omega : n + 1 ≤ 102) (by decide), ?_⟩
      rw [upd_upd]
      have et := take_get hz
      refine hP _ _ ⟨fun y => ?_, ?_, ?_⟩
      · rw [et, List.mem_append, List.mem_singleton, Bool.or_eq_true, hS, decide_eq_true_iff]
        exact ⟨fun h => h.imp id fun e => Sum.inr.inj e, fun h => h.imp id fun e => by rw [e]⟩
      · split <;> omega
      · rw [et, List.nodup_append]
        by_cases q : S (.inr z) = true
        · rw [if_pos q]
          have mz := (hS z).mp q
          constructor
          · intro e; omega
          · rintro ⟨_, _, h⟩
            exact absurd rfl (h z mz z (List.mem_singleton.mpr rfl))
        · rw [if_neg q]
          have mz : z ∉ ns.take i := fun m => q ((hS z).mpr m)
          constructor
          · intro e
            refine ⟨hnd.mp (by omega), by simp, fun u hu v hv => ?_⟩
            rw [List.mem_singleton.mp hv]
            exact fun e => mz (e ▸ hu)
          · rintro ⟨h, _, _⟩
            rw [hnd.mpr h]
    have fin : ∀ D, H D = none → ∀ H1, (∃ S n, H1 = upd H D (SetK P w D S n) ∧ (∀ z, S (.inr z) = true ↔ z ∈ ns.take xs.length) ∧ n ≤ xs.length ∧ (n = xs.length ↔ (ns.take xs.length).Nodup)) →
        (∀ (b : Bool), (b = true ↔ ns.Nodup) → Q (.bl b) H1) := by
      rintro D nD H1 ⟨S, n, rfl, _⟩ b hb
      exact k b _ hb (same_new same_rfl nD)
    have last : ∀ n, (n = xs.length ↔ (ns.take xs.length).Nodup) → (decide (V.int (n : Int) = V.int (xs.length : Int)) = true ↔ ns.Nodup) := fun n h => by
      rw [List.take_of_length_le (by omega)] at h
      rw [← h, decide_eq_true_iff]
      exact ⟨fun e => by have := V.int.inj e; omega, fun e => by rw [e]⟩
    refine ⟨A, rfl, ?_⟩
    rcases hA with hA | hA
    · refine .inl ⟨⟨_, hA⟩, fun D nD => ?_⟩
      refine sck_list (xs := xs) (fun i H' => ∃ S n, H' = upd H D (SetK P w D S n) ∧ (∀ z, S (.inr z) = true ↔ z ∈ ns.take i) ∧ n ≤ i ∧ (n = i ↔ (ns.take i).Nodup)) ⟨_, 0, rfl, fun z => by simp, by omega, by simp⟩ ?_ (fun i x H1 hx p => inv D nD i x H1 _ hx p fun S n q => ⟨S, n, rfl, q⟩) ?_
      · rintro i H1 _ ⟨S, n, rfl, _⟩
        exact SqL.ext hA (same_new same_rfl nD)
      · rintro H1 ⟨S, n, rfl, q1, q2, q3⟩
        refine ⟨D, S, n, rfl, upd_same, ?_⟩
        walk_at "go"
        refine ⟨A, xs, rfl, .inl (SqL.ext hA (same_new same_rfl nD)), ?_⟩
        walk_at "go"
        exact fin D nD _ ⟨S, n, rfl, q1, q2, q3⟩ _ (last n q3)
    · refine .inr ⟨⟨_, hA⟩, fun D nD => ?_⟩
      refine sck_tup (xs := xs) (fun i H' => ∃ S n, H' = upd H D (SetK P w D S n) ∧ (∀ z, S (.inr z) = true ↔ z ∈ ns.take i) ∧ n ≤ i ∧ (n = i ↔ (ns.take i).Nodup)) ⟨_, 0, rfl, fun z => by simp, by omega, by simp⟩ ?_ (fun i x H1 hx p => inv D nD i x H1 _ hx p fun S n q => ⟨S, n, rfl, q⟩) ?_
      · rintro i H1 _ ⟨S, n, rfl, _⟩
        exact SqT.ext hA (same_new same_rfl nD)
      · rintro H1 ⟨S, n, rfl, q1, q2, q3⟩
        refine ⟨D, S, n, rfl, upd_same, ?_⟩
        walk_at "go"
        refine ⟨A, xs, rfl, .inr (SqT.ext hA (same_new same_rfl nD)), ?_⟩
        walk_at "go"
        exact fin D nD _ ⟨S, n, rfl, q1, q2, q3⟩ _ (last n q3)
end
end Me
set_option maxHeartbeats 8000000
namespace Me
open PySem L2


/-- for i, x in enumerate(list), the list stays -/
theorem for_enum {K : PySem.W.Frag} {a : Addr} {xs : List V} {g : TG} {tb : TS} {D : Ends} {σ : L2.St} {H : Hp} (Pv : Nat → L2.St → Hp → Prop) (h0 : Pv 0 σ H) (hl : ∀ i σ H, i ≤ xs.length → Pv i σ H → SqL K H a xs)
    (hs : ∀ i x σ H T, xs[i]? = some x → Pv i σ H → H T = none → g (.ref T) σ (upd H T (.tup [.int (i : Nat), x])) fun σ2 H2 => tb { D with nx := Pv (i + 1), ct := Pv (i + 1), bk := D.nx } σ2 H2) (hd : ∀ σ H, Pv xs.length σ H → D.nx σ H) :
    ∃ W : Nat → Nat → L2.St → Hp → Prop, (∃ m, W 0 m σ H) ∧ ∀ i m σ H, W i m σ H →
      ((Ite K a).stop i H ∧ D.nx σ H) ∨ ((Ite K a).go i H ∧ ∃ N : L2.St → Hp → Prop, (∀ σ' H', N σ' H' → ∃ m', m' < m ∧ W (i + 1) m' σ' H') ∧ ∀ x H', (Ite K a).yld i H x H' → g x σ H' fun σ2 H2 => tb { D with nx := N, ct := N, bk := D.nx } σ2 H2) := by
  refine ⟨fun i m σ H => m + i = xs.length ∧ Pv i σ H, ⟨xs.length, rfl, h0⟩, fun i m σ H h => ?_⟩
  obtain ⟨hm, p⟩ := h
  have q := hl i σ H (by omega) p
  cases m with
  | zero =>
    have e : i = xs.length := by omega
    subst e
    exact .inl ⟨⟨xs, q, Nat.le_refl _⟩, hd σ H p⟩
  | succ m =>
    have lt : i < xs.length := by omega
    refine .inr ⟨⟨xs, xs[i], q, List.getElem?_eq_getElem lt⟩, Pv (i + 1), fun σ' H' p' => ⟨m, Nat.lt_succ_self m, by omega, p'⟩, fun x H' y => ?_⟩
    obtain ⟨T, z, rfl, nT, rfl, y⟩ := y
    exact hs i z σ H T (y xs q) p nT
theorem apart_iff {ws : List Str} : Apart ws ↔ ∀ (m n : Nat) u v, m < n → ws[m]? = some u → ws[n]? = some v → clash u v = false := by
  unfold Apart
  rw [List.pairwise_iff_getElem]
  constructor
  · intro h m n u v lt hu hv
    obtain ⟨l1, e1⟩ := List.getElem?_eq_some_iff.mp hu
    obtain ⟨l2, e2⟩ := List.getElem?_eq_some_iff.mp hv
    rw [← e1, ← e2]
    exact h m n l1 l2 lt
  · intro h i j hi hj lt
    exact h i j _ _ lt (List.getElem?_eq_getElem hi) (List.getElem?_eq_getElem hj)
theorem i_m1' {r : V → List V → Hp → VK → Prop} {to te : TE} {σ : L2.St} {H : Hp} {Q : VK} (q : to σ H fun x H1 => (∃ a, x = .str a) ∧ te σ H1 fun y H2 => r x [y] H2 Q) : tM1 r to te σ H Q := q
section
variable {P : Program} {w : World} {K : PySem.W.Frag} {mg : Str → Option Value} {base : Heap} {a : Ad}
def spApart : Sp := fun vs H Q _ => ∃ (A : Addr) (ws : List Str), vs = [.ref A] ∧ H A = some (.lst (ws.map V.str)) ∧ ws.length ≤ 100 ∧ ∀ (b : Bool) H', (b = true ↔ Apart ws) → Same H H' → Q (.bl b) H'
theorem ok_apart (T : Txt K mg a) : FnOk P w K mg base CX0 1 a.are_apart.f a.are_apart.fd ["words"] spApart := by
  have sc : FnScope ["words", "at", "word", "other"] ["words"] (defScope (top 26)) := ⟨rfl, rfl, rfl, by decide +kernel, rfl, by decide +kernel, by decide +kernel⟩
  refine T.are_apart.ok sc (fun vs H Q E h => ?_) (fun cdv A' outer s H vs Q E hr h => ?_)
  · obtain ⟨A, ws, rfl, _⟩ := h
    rfl
  · obtain ⟨A, ws, rfl, hA, h100, k⟩ := h
    refine ⟨_, (pss_cons (ps_for PassesOwn.never rfl (pi_enum rfl T.enumerate (pa_cons (pv 0) pa_nil)) (pg_tup (by rfl) (pgs_cons (pg_name (i := 1) sc.nd rfl (by first | exact Or.inl rfl | exact Or.inr rfl)) (pgs_cons (pg_name (i := 2) sc.nd rfl (by first | exact Or.inl rfl | exact Or.inr rfl)) pgs_nil)))
      (pss_one (ps_for PassesOwn.never rfl (pi_list (pe_slice sl_list (pv 0) (po_some (pe_op op_add (pv 1) pe_int)) po_none)) (pg_name (i := 3) sc.nd rfl (by first | exact Or.inl rfl | exact Or.inr rfl))
      (pss_one (ps_if (PW.pt (pw_or (pt_val (pe_m1 F.slot_str_startswith F.type_str_startswith mt_startswith (pv 2) (pv 3) rfl rfl rfl)) (pw_or1 (pt_val (pe_m1 F.slot_str_startswith F.type_str_startswith mt_startswith (pv 3) (pv 2) rfl rfl rfl)))))
      (pss_one (ps_ret pe_bl))
      pss_nil)))))
      (pss_one (ps_ret pe_bl))), ?_⟩
    walk_at "go"
    refine ⟨_, rfl, A, _, rfl, SqL.of hA, ?_⟩
    refine for_enum (xs := ws.map V.str) (fun i σ H' => Same H H' ∧ (∃ x y z, σ = [some (.ref A), x, y, z]) ∧ ∀ (m n : Nat) u v, m < i → m < n → ws[m]? = some u → ws[n]? = some v → clash u v = false) ⟨same_rfl, ⟨_, _, _, rfl⟩, fun m n u v h => by omega⟩ ?_ ?_ ?_
    · rintro i σ H1 _ ⟨s1, _⟩
      exact SqL.of (s1 _ _ hA)
    · rintro i x σ H1 t hx ⟨s1, ⟨x1, x2, x3, rfl⟩, hc⟩ nt
      rw [List.getElem?_map] at hx
      cases hu : ws[i]? with
      | none => rw [hu] at hx; cases hx
      | some u =>
        rw [hu] at hx
        cases hx
        have hi : i < ws.length := (List.getElem?_eq_some_iff.mp hu).1
        have s2 := same_new (o := .tup [.int (i : Nat), .str u]) s1 nt
        refine ⟨t, _, rfl, SqT.of upd_same, rfl, _, _, rfl, ?_⟩
        walk_at "go"
        refine ⟨_, _, rfl, ?_⟩
        walk_at "go"
        refine ⟨rfl, ?_⟩
        refine ⟨_, rfl, _, rfl, _, _, rfl, rfl, _, rfl, A, _, rfl, SqL.of (s2 _ _ hA), fun L nL => ?_⟩
        have ec : cutV (ws.map V.str) (some ((i : Int) + 1)) none = (ws.drop (i + 1)).map V.str := by
          have e : ((i : Int) + 1) = ((i + 1 : Nat) : Int) := by omega
          rw [e, cutV_nat _ _ (by rw [List.length_map]; omega), List.map_drop]
        rw [ec]
        have s3 := same_new (o := .lst ((ws.drop (i + 1)).map V.str)) s2 nL
        refine ⟨L, rfl, ⟨_, SqL.of upd_same⟩, ?_⟩
        refine for_list (xs := (ws.drop (i + 1)).map V.str) (fun j σ H' => Same H H' ∧ (∃ z, σ = [some (.ref A), some (.int (i : Nat)), some (.str u), z]) ∧ H' L = some (.lst ((ws.drop (i + 1)).map V.str)) ∧ ∀ (n : Nat) v, n < j → (ws.drop (i + 1))[n]? = some v → clash u v = false)
          ⟨s3, ⟨_, rfl⟩, upd_same, fun n v h => by omega⟩ ?_ ?_ ?_
        · rintro j σ H2 _ ⟨_, _, e, _⟩
          exact SqL.of e
        · rintro j y σ H2 hy ⟨s4, ⟨z, rfl⟩, hL, hcl⟩
          rw [List.getElem?_map] at hy
          cases hv : (ws.drop (i + 1))[j]? with
          | none => rw [hv] at hy; cases hy
          | some v =>
            rw [hv] at hy
            cases hy
            have bad : clash u v = true → Q (.bl false) H2 := fun e => by
              refine k false _ ⟨fun z => by (cases z), fun ap => ?_⟩ s4
              rw [List.getElem?_drop] at hv
              have := apart_iff.mp ap i (i + 1 + j) u v (by omega) hu hv
              rw [e] at this; cases this
            walk_at "go"
            refine i_m1' ?_
            walk_at "go"
            refine ⟨⟨_, rfl⟩, _, rfl, _, _, rfl, rfl, _, rfl, ?_⟩
            refine i_itb (fun h1 => ?_) (fun h1 => ?_)
            · refine i_yes rfl ?_
              exact bad (by unfold clash; rw [h1]; rfl)
            walk_at "go"
            refine i_m1' ?_
            walk_at "go"
            refine ⟨⟨_, rfl⟩, _, rfl, _, _, rfl, rfl, _, rfl, ?_⟩
            refine i_itb (fun h2 => ?_) (fun h2 => ?_)
            · exact bad (by unfold clash; rw [h2, Bool.or_true])
            · refine ⟨s4, ⟨_, rfl⟩, hL, fun n v' hn hv' => ?_⟩
              by_cases q : n < j
              · exact hcl n v' q hv'
              · have e : n = j := by omega
                subst e
                rw [hv] at hv'
                cases hv'
                unfold clash; rw [h1, h2]; rfl
        · rintro σ H2 ⟨s4, ⟨z, rfl⟩, hL, hcl⟩
          refine ⟨s4, ⟨_, _, _, rfl⟩, fun m n u' v' h1 h2 hm hn => ?_⟩
          by_cases q : m < i
          · exact hc m n u' v' q h2 hm hn
          · have e : m = i := by omega
            subst e
            rw [hu] at hm
            cases hm
            refine hcl (n - (m + 1)) v' ?_ ?_
            · have := (List.getElem?_eq_some_iff.mp hn).1
              rw [List.length_map, List.length_drop]; omega
            · rw [List.getElem?_drop]
              have e2 : m + 1 + (n - (m + 1)) = n := by omega
              rw [e2]; exact hn
    · rintro σ H1 ⟨s1, ⟨x, y, u, rfl⟩, hc⟩
      walk_at "go"
      refine k true _ ⟨fun _ => apart_iff.mpr fun m n u v lt hm hn => hc m n u v ?_ lt hm hn, fun _ => rfl⟩ s1
      rw [List.length_map]
      exact (List.getElem?_eq_some_iff.mp hm).1
end
end Me
set_option maxHeartbeats 8000000
namespace Me
open PySem L2


/-- a thing in a list that is passed: what class of the text it is of, its word and name -/
structure El where
  v : V
  k : Option Nat
  w : Str
  n : Str
def ElFs (e : El) (y : V) : List (Str × V) := if e.k = some 7 then [("name", .str e.n), ("kind", y)] else [("word", .str e.w), ("name", .str e.n), ("kind", y)]
structure ElAt (a : Ad) (H : Hp) (e : El) : Prop where
  itm : Itm a H e.v e.k
  fs : isK e.k [5, 6, 7, 8] = true → ∃ p i dx y, e.v = .ref p ∧ i < 11 ∧ e.k = some i ∧ H p = some (.ins (a.C i) dx (ElFs e y))
theorem ElAt.soft {a : Ad} {H H' : Hp} {e : El} (h : ElAt a H e) (s : Soft H H') : ElAt a H' e := by
  refine ⟨h.itm.soft s, fun q => ?_⟩
  obtain ⟨p, i, dx, y, e1, e2, e3, e4⟩ := h.fs q
  exact ⟨p, i, dx, y, e1, e2, e3, s.ins e4 fun _ z => by cases z⟩
theorem isK_two {k : Option Nat} {i j : Nat} : isK k [i, j] = true ↔ k = some i ∨ k = some j := by simp [isK]
theorem ElAt.nm {K : PySem.W.Frag} {mg : Str → Option Value} {a : Ad} (T : Txt K mg a) {H : Hp} {e : El} (h : ElAt a H e) (q : isK e.k [5, 6, 7, 8] = true) : Nm K H e.v "name" e.n := by
  obtain ⟨p, i, dx, y, e1, e2, e3, e4⟩ := h.fs q
  refine ⟨p, _, dx, _, e1, e4, (T.kc i e2).cl, (T.kc i e2).no _ (by decide), ?_⟩
  unfold ElFs
  split <;> rfl
theorem ElAt.wd {K : PySem.W.Frag} {mg : Str → Option Value} {a : Ad} (T : Txt K mg a) {H : Hp} {e : El} (h : ElAt a H e) (q : isK e.k [5, 6] = true) : Nm K H e.v "word" e.w := by
  have q2 : isK e.k [5, 6, 7, 8] = true := by
    rcases isK_two.mp q with q | q <;> rw [q] <;> rfl
  obtain ⟨p, i, dx, y, e1, e2, e3, e4⟩ := h.fs q2
  refine ⟨p, _, dx, _, e1, e4, (T.kc i e2).cl, (T.kc i e2).no _ (by decide), ?_⟩
  unfold ElFs
  rw [if_neg]
  · rfl
  · intro z; rw [z] at q; cases q
/-- a list or tuple of these -/
def LT (H : Hp) (A : Addr) (xs : List V) : Prop := H A = some (.lst xs) ∨ H A = some (.tup xs)
theorem LT.same {H H' : Hp} {A : Addr} {xs : List V} (h : LT H A xs) (s : Same H H') : LT H' A xs := h.imp (s _ _) (s _ _)
theorem LT.sq {K : PySem.W.Frag} {H : Hp} {A : Addr} {xs : List V} (h : LT H A xs) : Sq K H A xs := h.imp SqL.of SqT.of
/-- what is passed: a list or tuple of these, or another thing -/
inductive Pas (a : Ad) (H : Hp) : V → Option (List El) → Prop where
  | seq {A : Addr} {es : List El} (h : LT H A (es.map (·.v))) (hs : es.length ≤ 100) (he : ∀ e ∈ es, ElAt a H e) : Pas a H (.ref A) (some es)
  | oth {v : V} (h : Th H v) (n : ∀ q xs, v = .ref q → H q ≠ some (.lst xs) ∧ H q ≠ some (.tup xs)) : Pas a H v none
theorem el_lc {K : PySem.W.Frag} {te : TE} {σ : L2.St} {H : Hp} {Q : VK} {A : Addr} {j k : Nat} {es : List El} (f : El → V) (h0 : σ[j]? = some (some (.ref A))) (hA : LT H A (es.map (·.v))) (sm : es.length ≤ 100) (hw : ∀ x, wipe ((wipe σ [k]).set k (some x)) [k] = wipe σ [k])
    (st : ∀ e ∈ es, ∀ H1 (R : VK), Same H H1 → (∀ H4, Same H1 H4 → R (f e) H4) → te ((wipe σ [k]).set k (some e.v)) H1 R)
    (kk : ∀ D H', H D = none → Same H H' → H' D = some (.lst (es.map f)) → Q (.ref D) H') : tLc (iSq K j) (gName k) tYes te [k] σ H Q := by
  refine many_lc (xs := es.map (·.v)) (fun i y _ => (es.map f)[i]? = some y) (fun _ _ _ _ _ h => h) h0 hA.sq (by rw [List.length_map]; exact Nat.lt_of_le_of_lt sm (by decide)) hw (fun i x H1 R hx s1 q => ?_) (fun D ys H' nD s e hl hr => ?_)
  · rw [List.getElem?_map] at hx
    cases he : es[i]? with
    | none => rw [he] at hx; cases hx
    | some e =>
      rw [he] at hx
      cases hx
      exact st e (List.mem_of_getElem? he) H1 R s1 fun H4 s4 => q _ H4 s4 (by rw [List.getElem?_map, he]; rfl)
  · have : ys = es.map f := by
      refine List.ext_getElem? fun i => ?_
      cases hy : ys[i]? with
      | none =>
        have := List.getElem?_eq_none_iff.mp hy
        rw [hl, List.length_map] at this
        exact (List.getElem?_eq_none (by rw [List.length_map]; exact this)).symm
      | some y => exact (hr i y hy).symm
    rw [this] at e
    exact kk D H' nD s e
def waysP (es : List El) : Prop := (1 ≤ es.length ∧ es.length ≤ 12) ∧ (∀ e ∈ es, isK e.k [5, 6] = true) ∧ (∃ e ∈ es, e.k = some 5) ∧ (es.map (·.n)).Nodup ∧ Apart (es.map (·.w))
def partsP (es : List El) : Prop := (1 ≤ es.length ∧ es.length ≤ 8) ∧ (∀ e ∈ es, isK e.k [7, 8] = true) ∧ (∃ e, es.getLast? = some e ∧ e.k = some 7) ∧ (es.map (·.n)).Nodup
/-- isinstance(x, (list, tuple)) -/
theorem i_lt {K : PySem.W.Frag} {H : Hp} {Q : VK} {v : V} {tp : Addr} {t : String} {b c : Bool} (ty : TyX K H v (.type t)) (e1 : kitB t "list" = some b) (e2 : kitB t "tuple" = some c) (ht : H tp = some (.tup [.ty "list", .ty "tuple"])) (q : Q (.bl (b || (c || false))) H) : rIsiT K [v, .ref tp] H Q :=
  ⟨_, tp, _, .type t, [.type "list", .type "tuple"], _, rfl, ht, .cons (.ty _) (.cons (.ty _) .nil), ty, kitAny_or (kit_ty e1) (kitAny_or (kit_ty e2) rfl), q⟩
theorem i_ltS {K : PySem.W.Frag} {H : Hp} {Q : VK} {A tp : Addr} {xs : List V} (h : LT H A xs) (ht : H tp = some (.tup [.ty "list", .ty "tuple"])) (q : Q (.bl true) H) : rIsiT K [.ref A, .ref tp] H Q := by
  rcases h with h | h
  · exact i_lt (.base (.lst h)) kb_list_list kb_list_tuple ht q
  · exact i_lt (.base (.tup h)) kb_tuple_list kb_tuple_tuple ht q
section
variable {P : Program} {w : World} {K : PySem.W.Frag} {mg : Str → Option Value} {base : Heap} {a : Ad}
def spWaysG (a : Ad) : Sp := fun vs H Q _ => ∃ (v : V) (o : Option (List El)), vs = [v] ∧ Pas a H v o ∧ ∀ (b : Bool) H', (b = true ↔ ∃ es, o = some es ∧ waysP es) → Same H H' → Q (.bl b) H'
theorem ok_waysG (T : Txt K mg a) : FnOk P w K mg base CX0 2 a.are_ways.f a.are_ways.fd ["thing"] (spWaysG a) := by
  have G_have_unlike_names : FnOk P w K mg base CX0 1 a.have_unlike_names.f a.have_unlike_names.fd ["things"] (spUnlike K) := ok_unlike T
  have G_are_apart : FnOk P w K mg base CX0 1 a.are_apart.f a.are_apart.fd ["words"] spApart := ok_apart T
  have sc : FnScope ["thing", "way"] ["thing"] (defScope (top 23)) := ⟨rfl, rfl, rfl, by decide +kernel, rfl, by decide +kernel, by decide +kernel⟩
  refine T.are_ways.ok sc (fun vs H Q E h => ?_) (fun cdv A' outer s H vs Q E hr h => ?_)
  · obtain ⟨v, o, rfl, _⟩ := h
    rfl
  · obtain ⟨v, o, rfl, hv, k⟩ := h
    refine ⟨_, (pss_cons (ps_if (PW.pt (pw_or (pt_not (pt_val (pe_callB call_isiT (by rfl) T.isinstance (by decide +kernel) (pa_cons (pv 0) (pa_cons (pe_tup (pa_cons (pe_bltn (v := .ty "list") (by rfl) T.list (by decide +kernel) rfl) (pa_cons (pe_bltn (v := .ty "tuple") (by rfl) T.tuple (by decide +kernel) rfl) pa_nil))) pa_nil))))) (pw_or1 (pt_not (pt_chain op_le op_le pe_int (pe_callB call_len_seq (by rfl) T.len PySem.boot_len (pa_cons (pv 0) pa_nil)) pe_int)))))
      (pss_one (ps_ret pe_bl))
      pss_nil)
      (pss_cons (ps_if (pt_not (pt_val (pe_callB (cr_all rfl) (by rfl) T.all (by decide +kernel) (pa_cons (pe_lc (te := tCB (rIsiT K) (tCons (tVar 1) (tCons (tTup (tCons (tC (.ref (a.C 5))) (tCons (tC (.ref (a.C 6))) tNil))) tNil))) (own := [("way", 1)]) (g := gName 1) (by rfl) sc.nd (pi_sqv (pv 0)) (blkOk_by (own := [("way", 1)]) (N := ["thing", "way"]) (sc := defScope (top 23)) (by decide +kernel)) (fun _ _ _ _ _ => pg_name (i := 1) sc.nd rfl (Or.inl rfl)) (fun _ _ _ _ _ => pts_nil) (fun _ _ _ _ _ => (by exact (pe_callB call_isiT (by rfl) T.isinstance (by decide +kernel) (pa_cons (pv 1) (pa_cons (pe_tup (pa_cons (pe_glob (v := .ref (a.C 5)) rfl (T.kc 5 (by decide)).gl rfl) (pa_cons (pe_glob (v := .ref (a.C 6)) rfl (T.kc 6 (by decide)).gl rfl) pa_nil))) pa_nil)))))) pa_nil))))
      (pss_one (ps_ret pe_bl))
      pss_nil)
      (pss_cons (ps_if (pt_not (pt_val (pe_callB (cr_any rfl) (by rfl) T.any (by decide +kernel) (pa_cons (pe_lc (te := tCB (rIsi K) (tCons (tVar 1) (tCons (tC (.ref (a.C 5))) tNil))) (own := [("way", 1)]) (g := gName 1) (by rfl) sc.nd (pi_sqv (pv 0)) (blkOk_by (own := [("way", 1)]) (N := ["thing", "way"]) (sc := defScope (top 23)) (by decide +kernel)) (fun _ _ _ _ _ => pg_name (i := 1) sc.nd rfl (Or.inl rfl)) (fun _ _ _ _ _ => pts_nil) (fun _ _ _ _ _ => (by exact (pe_callB call_isi (by rfl) T.isinstance (by decide +kernel) (pa_cons (pv 1) (pa_cons (pe_glob (v := .ref (a.C 5)) rfl (T.kc 5 (by decide)).gl rfl) pa_nil)))))) pa_nil))))
      (pss_one (ps_ret pe_bl))
      pss_nil)
      (pss_one (ps_ret (pe_and (pe_call G_have_unlike_names (hr.mono (by first | decide | omega)) rfl T.have_unlike_names.mg T.have_unlike_names.kp T.have_unlike_names.b .nil pass0 (pa_cons (pv 0) pa_nil)) (pe_one (pe_call G_are_apart (hr.mono (by first | decide | omega)) rfl T.are_apart.mg T.are_apart.kp T.are_apart.b .nil pass0 (pa_cons (pe_lc (te := tFld K (tVar 1) "word") (own := [("way", 1)]) (g := gName 1) (by rfl) sc.nd (pi_sqv (pv 0)) (blkOk_by (own := [("way", 1)]) (N := ["thing", "way"]) (sc := defScope (top 23)) (by decide +kernel)) (fun _ _ _ _ _ => pg_name (i := 1) sc.nd rfl (Or.inl rfl)) (fun _ _ _ _ _ => pts_nil) (fun _ _ _ _ _ => (by exact (pe_fld (pv 1) rfl)))) pa_nil))))))))), ?_⟩
    walk_at "go"
    rename_i tp ntp
    have s1 := same_new (o := .tup [.ty "list", .ty "tuple"]) same_rfl ntp
    have htp := upd_same (H := H) (a := tp) (o := .tup [.ty "list", .ty "tuple"])
    generalize upd H tp (.tup [.ty "list", .ty "tuple"]) = H1 at s1 htp ⊢
    cases hv with
    | oth h n =>
      have no : Q (.bl false) H1 := k false _ ⟨fun z => (by cases z), fun ⟨es, z, _⟩ => by cases z⟩ s1
      cases h with
      | non => exact i_lt (.base .non) kb_NoneType_list kb_NoneType_tuple htp ⟨_, rfl, i_yes rfl no⟩
      | bl b => exact i_lt (.base (.bl b)) kb_bool_list kb_bool_tuple htp ⟨_, rfl, i_yes rfl no⟩
      | int i => exact i_lt (.base (.int i)) kb_int_list kb_int_tuple htp ⟨_, rfl, i_yes rfl no⟩
      | str z => exact i_lt (.base (.str z)) kb_str_list kb_str_tuple htp ⟨_, rfl, i_yes rfl no⟩
      | tup h => exact absurd h (n _ _ rfl).2
      | lst h => exact absurd h (n _ _ rfl).1
      | dK h => exact i_lt (.base (.dK (s1 _ _ h))) kb_dict_list kb_dict_tuple htp ⟨_, rfl, i_yes rfl no⟩
    | @seq A es hA hs he =>
      have no : ∀ H', Same H H' → ¬ waysP es → Q (.bl false) H' := fun H' s q => k false _ ⟨fun z => (by cases z), fun ⟨es', z, w⟩ => by cases z; exact absurd w q⟩ s
      have hA1 := hA.same s1
      refine i_ltS hA1 htp ⟨_, rfl, i_no rfl ?_⟩
      walk_at "go"
      refine i_chain ?_
      walk_at "go"
      refine ⟨A, _, rfl, hA1.sq, ?_⟩
      walk_at "go"
      have el : (es.map (·.v)).length = es.length := List.length_map ..
      refine i_itd (fun h1 => ?_) (fun h1 => ?_)
      rotate_left
      · exact ⟨_, rfl, i_yes rfl (no _ s1 fun q => h1 (by rw [el]; have := q.1.1; omega))⟩
      walk_at "go"
      refine i_itn (fun h2 => ?_) (fun h2 => ?_)
      · exact (no _ s1 fun q => h2 (by rw [el]; have := q.1.2; omega))
      rw [el] at h1 h2
      walk_at "go"
      refine el_lc (fun e => .bl (isK e.k [5, 6])) rfl hA1 hs (fun _ => rfl) (fun e me H2 R s2 kR => ?_) (fun D2 H2 nD2 s2 h2 => ?_)
      · walk_at "go"
        rename_i tp2 ntp2
        have s3 := same_new (o := .tup [.ref (a.C 5), .ref (a.C 6)]) same_rfl ntp2
        exact i_isT T [5, 6] (by decide) ((((he e me).itm.same s1).same s2).same s3) upd_same (kR _ s3)
      have s12 := s1.trans s2
      walk_at "go"
      refine ⟨D2, es.map fun e => isK e.k [5, 6], rfl, SqL.of (by rw [List.map_map]; exact h2), ⟨_, rfl, ?_⟩⟩
      by_cases q1 : ∀ e ∈ es, isK e.k [5, 6] = true
      rotate_left
      · refine i_yes ?_ (no _ s12 fun q => q1 q.2.1)
        rw [Bool.not_eq_true']
        refine Bool.eq_false_iff.mpr fun z => q1 fun e me => ?_
        simp only [List.all_map, List.all_eq_true, Function.comp, id_eq] at z
        exact z e me
      refine i_no ?_ ?_
      · rw [Bool.not_eq_false']
        simp only [List.all_map, List.all_eq_true, Function.comp, id_eq]
        exact q1
      walk_at "go"
      refine el_lc (fun e => .bl (decide (e.k = some 5))) rfl (hA1.same s2) hs (fun _ => rfl) (fun e me H3 R s3 kR => ?_) (fun D3 H3 nD3 s3 h3 => ?_)
      · walk_at "go"
        exact i_isC T (by decide) (((he e me).itm.same s12).same s3) (kR _ same_rfl)
      have s13 := s12.trans s3
      walk_at "go"
      refine ⟨D3, es.map fun e => decide (e.k = some 5), rfl, SqL.of (by rw [List.map_map]; exact h3), ⟨_, rfl, ?_⟩⟩
      by_cases q2 : ∃ e ∈ es, e.k = some 5
      rotate_left
      · refine i_yes ?_ (no _ s13 fun q => q2 q.2.2.1)
        rw [Bool.not_eq_true']
        refine Bool.eq_false_iff.mpr fun z => q2 ?_
        simp only [List.any_map, List.any_eq_true, Function.comp, id_eq, decide_eq_true_eq] at z
        exact z
      refine i_no ?_ ?_
      · rw [Bool.not_eq_false']
        simp only [List.any_map, List.any_eq_true, Function.comp, id_eq, decide_eq_true_eq]
        exact q2
      walk_at "go"
      have big : ∀ e ∈ es, isK e.k [5, 6, 7, 8] = true := fun e me => by
        rcases isK_two.mp (q1 e me) with q | q <;> rw [q] <;> rfl
      refine ⟨A, es.map (·.v), es.map (·.n), rfl, (hA1.same (s2.trans s3)).sq, by rw [List.length_map, List.length_map], by rw [List.length_map]; exact hs, fun i x hx => ?_, fun b H4 hb s4 => ?_⟩
      · rw [List.getElem?_map] at hx
        cases hei : es[i]? with
        | none => rw [hei] at hx; cases hx
        | some e =>
          rw [hei] at hx
          cases hx
          have me := List.mem_of_getElem? hei
          exact ⟨e.n, by rw [List.getElem?_map, hei]; rfl, ((he e me).soft (Same.soft s13)).nm T (big e me)⟩
      refine ⟨_, rfl, ?_⟩
      have s14 := s13.trans s4
      cases b with
      | false => exact i_no rfl (no _ s14 fun q => by have := hb.mpr q.2.2.2.1; cases this)
      | true =>
        refine i_yes rfl ?_
        walk_at "go"
        refine el_lc (fun e => .str e.w) rfl (((hA1.same s2).same s3).same s4) hs (fun _ => rfl) (fun e me H5 R s5 kR => ?_) (fun D5 H5 nD5 s5 h5 => ?_)
        · obtain ⟨p, C, dx, fs, e1, e2, e3, e4, e5⟩ := ((he e me).soft (Same.soft (s14.trans s5))).wd T (q1 e me)
          exact ⟨_, rfl, p, C, dx, fs, _, e1, e2, e3, e4, e5, kR _ same_rfl⟩
        walk_at "go"
        refine ⟨D5, es.map (·.w), rfl, by rw [List.map_map]; exact h5, by rw [List.length_map]; exact hs, fun b H6 hb2 s6 => ?_⟩
        refine k b _ ⟨fun z => ⟨es, rfl, ⟨by omega, by omega⟩, q1, q2, hb.mp rfl, hb2.mp z⟩, fun ⟨es', z, q⟩ => ?_⟩ ((s14.trans s5).trans s6)
        cases z
        exact hb2.mpr q.2.2.2.2
end
end Me
set_option maxHeartbeats 8000000
namespace Me
open PySem L2


section
variable {P : Program} {w : World} {K : PySem.W.Frag} {mg : Str → Option Value} {base : Heap} {a : Ad}
def spPartsG (a : Ad) : Sp := fun vs H Q _ => ∃ (v : V) (o : Option (List El)), vs = [v] ∧ Pas a H v o ∧ ∀ (b : Bool) H', (b = true ↔ ∃ es, o = some es ∧ partsP es) → Same H H' → Q (.bl b) H'
theorem ok_partsG (T : Txt K mg a) : FnOk P w K mg base CX0 2 a.are_parts.f a.are_parts.fd ["thing"] (spPartsG a) := by
  have G_have_unlike_names : FnOk P w K mg base CX0 1 a.have_unlike_names.f a.have_unlike_names.fd ["things"] (spUnlike K) := ok_unlike T
  have sc : FnScope ["thing", "part"] ["thing"] (defScope (top 24)) := ⟨rfl, rfl, rfl, by decide +kernel, rfl, by decide +kernel, by decide +kernel⟩
  refine T.are_parts.ok sc (fun vs H Q E h => ?_) (fun cdv A' outer s H vs Q E hr h => ?_)
  · obtain ⟨v, o, rfl, _⟩ := h
    rfl
  · obtain ⟨v, o, rfl, hv, k⟩ := h
    refine ⟨_, (pss_cons (ps_if (PW.pt (pw_or (pt_not (pt_val (pe_callB call_isiT (by rfl) T.isinstance (by decide +kernel) (pa_cons (pv 0) (pa_cons (pe_tup (pa_cons (pe_bltn (v := .ty "list") (by rfl) T.list (by decide +kernel) rfl) (pa_cons (pe_bltn (v := .ty "tuple") (by rfl) T.tuple (by decide +kernel) rfl) pa_nil))) pa_nil))))) (pw_or1 (pt_not (pt_chain op_le op_le pe_int (pe_callB call_len_seq (by rfl) T.len PySem.boot_len (pa_cons (pv 0) pa_nil)) pe_int)))))
      (pss_one (ps_ret pe_bl))
      pss_nil)
      (pss_cons (ps_if (pt_not (pt_val (pe_callB (cr_all rfl) (by rfl) T.all (by decide +kernel) (pa_cons (pe_lc (te := tCB (rIsiT K) (tCons (tVar 1) (tCons (tTup (tCons (tC (.ref (a.C 7))) (tCons (tC (.ref (a.C 8))) tNil))) tNil))) (own := [("part", 1)]) (g := gName 1) (by rfl) sc.nd (pi_sqv (pv 0)) (blkOk_by (own := [("part", 1)]) (N := ["thing", "part"]) (sc := defScope (top 24)) (by decide +kernel)) (fun _ _ _ _ _ => pg_name (i := 1) sc.nd rfl (Or.inl rfl)) (fun _ _ _ _ _ => pts_nil) (fun _ _ _ _ _ => (by exact (pe_callB call_isiT (by rfl) T.isinstance (by decide +kernel) (pa_cons (pv 1) (pa_cons (pe_tup (pa_cons (pe_glob (v := .ref (a.C 7)) rfl (T.kc 7 (by decide)).gl rfl) (pa_cons (pe_glob (v := .ref (a.C 8)) rfl (T.kc 8 (by decide)).gl rfl) pa_nil))) pa_nil)))))) pa_nil))))
      (pss_one (ps_ret pe_bl))
      pss_nil)
      (pss_one (ps_ret (pe_and (pe_callB call_isi (by rfl) T.isinstance (by decide +kernel) (pa_cons (pe_ix ix_seq (pv 0) (pe_un un_neg pe_int) (fun _ _ => rfl)) (pa_cons (pe_glob (v := .ref (a.C 7)) rfl (T.kc 7 (by decide)).gl rfl) pa_nil))) (pe_one (pe_call G_have_unlike_names (hr.mono (by first | decide | omega)) rfl T.have_unlike_names.mg T.have_unlike_names.kp T.have_unlike_names.b .nil pass0 (pa_cons (pv 0) pa_nil)))))))), ?_⟩
    walk_at "go"
    rename_i tp ntp
    have s1 := same_new (o := .tup [.ty "list", .ty "tuple"]) same_rfl ntp
    have htp := upd_same (H := H) (a := tp) (o := .tup [.ty "list", .ty "tuple"])
    generalize upd H tp (.tup [.ty "list", .ty "tuple"]) = H1 at s1 htp ⊢
    cases hv with
    | oth h n =>
      have no : Q (.bl false) H1 := k false _ ⟨fun z => (by cases z), fun ⟨es, z, _⟩ => by cases z⟩ s1
      cases h with
      | non => exact i_lt (.base .non) kb_NoneType_list kb_NoneType_tuple htp ⟨_, rfl, i_yes rfl no⟩
      | bl b => exact i_lt (.base (.bl b)) kb_bool_list kb_bool_tuple htp ⟨_, rfl, i_yes rfl no⟩
      | int i => exact i_lt (.base (.int i)) kb_int_list kb_int_tuple htp ⟨_, rfl, i_yes rfl no⟩
      | str z => exact i_lt (.base (.str z)) kb_str_list kb_str_tuple htp ⟨_, rfl, i_yes rfl no⟩
      | tup h => exact absurd h (n _ _ rfl).2
      | lst h => exact absurd h (n _ _ rfl).1
      | dK h => exact i_lt (.base (.dK (s1 _ _ h))) kb_dict_list kb_dict_tuple htp ⟨_, rfl, i_yes rfl no⟩
    | @seq A es hA hs he =>
      have no : ∀ H', Same H H' → ¬ partsP es → Q (.bl false) H' := fun H' s q => k false _ ⟨fun z => (by cases z), fun ⟨es', z, w⟩ => by cases z; exact absurd w q⟩ s
      have hA1 := hA.same s1
      refine i_ltS hA1 htp ⟨_, rfl, i_no rfl ?_⟩
      walk_at "go"
      refine i_chain ?_
      walk_at "go"
      refine ⟨A, _, rfl, hA1.sq, ?_⟩
      walk_at "go"
      have el : (es.map (·.v)).length = es.length := List.length_map ..
      refine i_itd (fun h1 => ?_) (fun h1 => ?_)
      rotate_left
      · exact ⟨_, rfl, i_yes rfl (no _ s1 fun q => h1 (by rw [el]; have := q.1.1; omega))⟩
      walk_at "go"
      refine i_itn (fun h2 => ?_) (fun h2 => ?_)
      · exact (no _ s1 fun q => h2 (by rw [el]; have := q.1.2; omega))
      rw [el] at h1 h2
      walk_at "go"
      refine el_lc (fun e => .bl (isK e.k [7, 8])) rfl hA1 hs (fun _ => rfl) (fun e me H2 R s2 kR => ?_) (fun D2 H2 nD2 s2 h2 => ?_)
      · walk_at "go"
        rename_i tp2 ntp2
        have s3 := same_new (o := .tup [.ref (a.C 7), .ref (a.C 8)]) same_rfl ntp2
        exact i_isT T [7, 8] (by decide) ((((he e me).itm.same s1).same s2).same s3) upd_same (kR _ s3)
      have s12 := s1.trans s2
      walk_at "go"
      refine ⟨D2, es.map fun e => isK e.k [7, 8], rfl, SqL.of (by rw [List.map_map]; exact h2), ⟨_, rfl, ?_⟩⟩
      by_cases q1 : ∀ e ∈ es, isK e.k [7, 8] = true
      rotate_left
      · refine i_yes ?_ (no _ s12 fun q => q1 q.2.1)
        rw [Bool.not_eq_true']
        refine Bool.eq_false_iff.mpr fun z => q1 fun e me => ?_
        simp only [List.all_map, List.all_eq_true, Function.comp, id_eq] at z
        exact z e me
      refine i_no ?_ ?_
      · rw [Bool.not_eq_false']
        simp only [List.all_map, List.all_eq_true, Function.comp, id_eq]
        exact q1
      walk_at "go"
      obtain ⟨l0, e0, he0⟩ : ∃ l0 e0, es = l0 ++ [e0] := ⟨_, _, (List.dropLast_concat_getLast (fun z => by rw [z] at h1; simp at h1 : es ≠ [])).symm⟩
      have hl0 : es.getLast? = some e0 := by rw [he0]; simp
      have me0 : e0 ∈ es := by rw [he0]; simp
      have e1 : atI (es.map (·.v)) (-1) = some e0.v := by rw [he0, List.map_append]; exact atI_last _ _
      have hA2 := hA1.same s2
      have cont : ∀ R : VK, R e0.v H2 → rIx K (.ref A) (.int (-1)) H2 R := fun R q => by
        rcases hA2 with h | h
        · exact .inl ⟨A, _, _, e0.v, rfl, rfl, SqL.of h, e1, q⟩
        · exact .inr (.inl ⟨A, _, _, e0.v, rfl, rfl, SqT.of h, e1, q⟩)
      refine cont _ ?_
      walk_at "go"
      refine i_isC T (j := 7) (by decide) ((he e0 me0).itm.same s12) ⟨_, rfl, ?_⟩
      by_cases q2 : e0.k = some 7
      rotate_left
      · refine i_no (decide_eq_false q2) (no _ s12 fun q => q2 ?_)
        obtain ⟨e, h, h'⟩ := q.2.2.1
        rw [hl0] at h; cases h; exact h'
      refine i_yes (decide_eq_true q2) ?_
      walk_at "go"
      have big : ∀ e ∈ es, isK e.k [5, 6, 7, 8] = true := fun e me => by
        rcases isK_two.mp (q1 e me) with q | q <;> rw [q] <;> rfl
      refine ⟨A, es.map (·.v), es.map (·.n), rfl, hA2.sq, by rw [List.length_map, List.length_map], by rw [List.length_map]; exact hs, fun i x hx => ?_, fun b H4 hb s4 => ?_⟩
      · rw [List.getElem?_map] at hx
        cases hei : es[i]? with
        | none => rw [hei] at hx; cases hx
        | some e =>
          rw [hei] at hx
          cases hx
          have me := List.mem_of_getElem? hei
          exact ⟨e.n, by rw [List.getElem?_map, hei]; rfl, ((he e me).soft (Same.soft s12)).nm T (big e me)⟩
      refine k b _ ⟨fun z => ⟨es, rfl, ⟨by omega, by omega⟩, q1, ⟨e0, hl0, q2⟩, hb.mp z⟩, fun ⟨es', z, q⟩ => ?_⟩ (s12.trans s4)
      cases z
      exact hb.mpr q.2.2.2
end
end Me
set_option maxHeartbeats 8000000
namespace Me
open PySem L2


/-- made of what is passed, or refused -/
def MadeOf (a : Ad) (i : Nat) (f : Str) (pr : List El → Prop) (o : Option (List El)) (x dx : Addr) (H : Hp) (Q : VK) (E : XK) : Prop :=
  (∀ es, o = some es → pr es → ∀ H' t, Kept H x H' → H' x = some (.ins (a.C i) dx [(f, .ref t)]) → H' t = some (.tup (es.map (·.v))) → Q .non H') ∧
  ((¬ ∃ es, o = some es ∧ pr es) → ∀ d H', Same H H' → H' d = some (.xd [("part", .str f)]) → E (.ref a.bad) (some d) H')
section
variable {P : Program} {w : World} {K : PySem.W.Frag} {mg : Str → Option Value} {base : Heap} {a : Ad}
def spChoiceG (a : Ad) : Sp := fun vs H Q E => ∃ x dx v o, vs = [.ref x, v] ∧ H x = some (.ins (a.C 9) dx []) ∧ Pas a H v o ∧ MadeOf a 9 "ways" waysP o x dx H Q E
theorem ok_ChoiceG (T : Txt K mg a) : FnOk P w K mg base (L2.CX P w) 3 (a.I 9).f (a.I 9).fd ["self", "ways"] (spChoiceG a) := by
  have G_are_ways : FnOk P w K mg base CX0 2 a.are_ways.f a.are_ways.fd ["thing"] (spWaysG a) := ok_waysG T
  have sc : FnScope ["self", "ways"] ["self", "ways"] (defScope (inClass (top 20) 0)) := ⟨rfl, rfl, rfl, by decide +kernel, rfl, by decide +kernel, by decide +kernel⟩
  refine ok0x T.I9 sc (fun vs H Q E h => ?_) (fun cdv A' outer s H vs Q E hr h => ?_)
  · obtain ⟨x, dx, v, o, rfl, _⟩ := h
    rfl
  · obtain ⟨x, dx, v, o, rfl, hx, hv, k1, k2⟩ := h
    have tk : Takes (cxOf (L2.CX P w) P w K mg base ["self", "ways"] "Choice.__init__" (defScope (inClass (top 20) 0)) (a.I 9).f cdv A' outer s H E) (fun cls d _ H => E cls d H) := takes_of rfl rfl rfl rfl
    have kc := T.kc 9 (by decide)
    refine ⟨_, (pss_cons (ps_if (pt_not (pt_val (pe_call G_are_ways (hr.mono (by first | decide | omega)) rfl T.are_ways.mg T.are_ways.kp T.are_ways.b .nil pass0 (pa_cons (pv 1) pa_nil))))
      (pss_one (ps_bad T.bad rfl (hr.mono (by decide)) tk))
      pss_nil)
      (pss_one (ps_fld (pv 0) (pe_callTy call_tuple_of (by rfl) T.tuple (by decide +kernel) (pa_cons (pv 1) pa_nil)) rfl))), ?_⟩
    walk_at "go"
    refine ⟨v, o, rfl, hv, fun b H1 hb s1 => ?_⟩
    cases b with
    | false =>
      refine ⟨_, rfl, i_yes rfl ?_⟩
      intro d nd
      exact k2 (fun z => by have := hb.mpr z; cases this) d _ (same_new s1 nd) upd_same
    | true =>
      refine ⟨_, rfl, i_no rfl ?_⟩
      obtain ⟨es, rfl, q⟩ := hb.mp rfl
      cases hv with
      | seq hA hs he =>
        walk_at "go"
        dsimp only
        refine i_sfld ?_
        walk_at "go"
        rcases hA with hA | hA
        · refine ⟨_, _, rfl, .inl ⟨SqL.of (s1 _ _ hA), fun t nt => ?_⟩⟩
          have s2 := same_new (o := .tup (es.map (·.v))) s1 nt
          walk_at "go"
          refine ⟨x, _, dx, [], rfl, s2 _ _ hx, kc.cl, kc.no _ (by decide), by decide, ?_⟩
          have nx : t ≠ x := (ne_of_none (s1 _ _ hx) nt).symm
          exact k1 es rfl q _ t (Kept.upd fun b o _ e => s2 b o e) upd_same (by rw [upd_ne nx, upd_same])
        · refine ⟨_, _, rfl, .inr ⟨SqT.of (s1 _ _ hA), ?_⟩⟩
          walk_at "go"
          refine ⟨x, _, dx, [], rfl, s1 _ _ hx, kc.cl, kc.no _ (by decide), by decide, ?_⟩
          refine k1 es rfl q _ _ (Kept.upd fun b o _ e => s1 b o e) upd_same (by rw [upd_ne]; exact s1 _ _ hA; intro z; rw [z, hx] at hA; cases hA)
def spRowG (a : Ad) : Sp := fun vs H Q E => ∃ x dx v o, vs = [.ref x, v] ∧ H x = some (.ins (a.C 10) dx []) ∧ Pas a H v o ∧ MadeOf a 10 "parts" partsP o x dx H Q E
theorem ok_RowG (T : Txt K mg a) : FnOk P w K mg base (L2.CX P w) 3 (a.I 10).f (a.I 10).fd ["self", "parts"] (spRowG a) := by
  have G_are_parts : FnOk P w K mg base CX0 2 a.are_parts.f a.are_parts.fd ["thing"] (spPartsG a) := ok_partsG T
  have sc : FnScope ["self", "parts"] ["self", "parts"] (defScope (inClass (top 21) 0)) := ⟨rfl, rfl, rfl, by decide +kernel, rfl, by decide +kernel, by decide +kernel⟩
  refine ok0x T.I10 sc (fun vs H Q E h => ?_) (fun cdv A' outer s H vs Q E hr h => ?_)
  · obtain ⟨x, dx, v, o, rfl, _⟩ := h
    rfl
  · obtain ⟨x, dx, v, o, rfl, hx, hv, k1, k2⟩ := h
    have tk : Takes (cxOf (L2.CX P w) P w K mg base ["self", "parts"] "Row.__init__" (defScope (inClass (top 21) 0)) (a.I 10).f cdv A' outer s H E) (fun cls d _ H => E cls d H) := takes_of rfl rfl rfl rfl
    have kc := T.kc 10 (by decide)
    refine ⟨_, (pss_cons (ps_if (pt_not (pt_val (pe_call G_are_parts (hr.mono (by first | decide | omega)) rfl T.are_parts.mg T.are_parts.kp T.are_parts.b .nil pass0 (pa_cons (pv 1) pa_nil))))
      (pss_one (ps_bad T.bad rfl (hr.mono (by decide)) tk))
      pss_nil)
      (pss_one (ps_fld (pv 0) (pe_callTy call_tuple_of (by rfl) T.tuple (by decide +kernel) (pa_cons (pv 1) pa_nil)) rfl))), ?_⟩
    walk_at "go"
    refine ⟨v, o, rfl, hv, fun b H1 hb s1 => ?_⟩
    cases b with
    | false =>
      refine ⟨_, rfl, i_yes rfl ?_⟩
      intro d nd
      exact k2 (fun z => by have := hb.mpr z; cases this) d _ (same_new s1 nd) upd_same
    | true =>
      refine ⟨_, rfl, i_no rfl ?_⟩
      obtain ⟨es, rfl, q⟩ := hb.mp rfl
      cases hv with
      | seq hA hs he =>
        walk_at "go"
        dsimp only
        refine i_sfld ?_
        walk_at "go"
        rcases hA with hA | hA
        · refine ⟨_, _, rfl, .inl ⟨SqL.of (s1 _ _ hA), fun t nt => ?_⟩⟩
          have s2 := same_new (o := .tup (es.map (·.v))) s1 nt
          walk_at "go"
          refine ⟨x, _, dx, [], rfl, s2 _ _ hx, kc.cl, kc.no _ (by decide), by decide, ?_⟩
          have nx : t ≠ x := (ne_of_none (s1 _ _ hx) nt).symm
          exact k1 es rfl q _ t (Kept.upd fun b o _ e => s2 b o e) upd_same (by rw [upd_ne nx, upd_same])
        · refine ⟨_, _, rfl, .inr ⟨SqT.of (s1 _ _ hA), ?_⟩⟩
          walk_at "go"
          refine ⟨x, _, dx, [], rfl, s1 _ _ hx, kc.cl, kc.no _ (by decide), by decide, ?_⟩
          refine k1 es rfl q _ _ (Kept.upd fun b o _ e => s1 b o e) upd_same (by rw [upd_ne]; exact s1 _ _ hA; intro z; rw [z, hx] at hA; cases hA)
end
end Me
set_option maxHeartbeats 8000000
namespace Me
open PySem L2


/-! ### list.remove of a text -/
def eqs (k : Str) (v : Value) : Bool := match v with
  | .str n _ => n.cps.toList == k.cps.toList
  | _ => false
def rRemS : V → List V → Hp → VK → Prop := fun x xs H Q => ∃ (l : Addr) (ns : List Str) (k : Str) (j : Nat), x = .ref l ∧ xs = [.str k] ∧ H l = some (.lst (ns.map V.str)) ∧ ns[j]? = some k ∧ (∀ m : Nat, m < j → ns[m]? ≠ some k) ∧ Q .non (upd H l (.lst ((ns.eraseIdx j).map V.str)))
theorem erase_mapS (l : List Str) (j : Nat) : (l.map V.str).eraseIdx j = (l.eraseIdx j).map V.str := by
  induction l generalizing j with
  | nil => simp
  | cons a r ih => cases j with
    | zero => simp
    | succ j => simp [ih]
theorem mt_removeS {X : Cx} : MtM X "list.remove" rRemS := by
  intro pins s σ H x xs v us Q I rx rxs h
  obtain ⟨l, ns, k, j, rfl, rfl, hH, hj, hno, q⟩ := h
  cases rx
  obtain ⟨u, rfl, ru⟩ := rxs.one
  obtain ⟨t, rfl⟩ := ru
  obtain ⟨z, its, n, r, hl, e⟩ := I.lstM hH
  have hi : ∀ (i : Nat) (y : Value), its[i]? = some y → ∃ w t, ns[i]? = some w ∧ y = .str w t := fun i y hy => by
    have hlt : i < (ns.map V.str).length := by rw [r.length]; exact (List.getElem?_eq_some_iff.mp hy).1
    obtain ⟨u, hu, ru⟩ := r.get (List.getElem?_eq_getElem hlt)
    rw [hy] at hu; cases hu
    rw [List.length_map] at hlt
    refine ⟨ns[i], ?_⟩
    rw [List.getElem_map] at ru
    obtain ⟨t, rfl⟩ := ru
    exact ⟨t, List.getElem?_eq_getElem hlt, rfl⟩
  rw [List.length_map] at hl z
  have hjn : j < ns.length := (List.getElem?_eq_some_iff.mp hj).1
  have hjl : j < its.toArray.size := by rw [List.size_toArray]; omega
  refine call_meets PySem.F.slot_list_remove ⟨_, e, rfl⟩ PySem.F.entry_list_remove (PySem.F.args_list_remove_2 _ _)
    (MeetsSeq.list_remove l its.toArray n (.str k t) (eqs k) (fun y hy => ?_) j hjl ?_ ?_ (by rw [List.size_toArray]; omega)) ⟨e, ?_⟩
  · have hy : y ∈ its := by simpa using hy
    obtain ⟨i, hi'⟩ := List.getElem?_of_mem hy
    obtain ⟨w, t', _, rfl⟩ := hi i y hi'
    exact SeqRoads2.EqGives.str w k t' t
  · have hlt : j < its.length := by rw [List.size_toArray] at hjl; exact hjl
    obtain ⟨w, t', h1, h2⟩ := hi j _ (List.getElem?_eq_getElem hlt)
    rw [hj] at h1; cases h1
    have e1 : its.toArray[j] = .str k t' := by simpa using h2
    rw [e1]
    exact beq_self_eq_true k.cps.toList
  · intro m hm hmj
    have hlt : m < its.length := by rw [List.size_toArray] at hm; exact hm
    obtain ⟨w, t', h1, h2⟩ := hi m _ (List.getElem?_eq_getElem hlt)
    have e1 : its.toArray[m] = .str w t' := by simpa using h2
    rw [e1]
    refine beq_eq_false_iff_ne.mpr fun e2 => hno m hmj ?_
    rw [h1]
    have : w.cps = k.cps := Array.toList_inj.mp e2
    cases w; cases k; cases this; rfl
  · have rr := r.eraseIdx j
    rw [erase_mapS] at rr
    refine ⟨.non, _, I.lset (its' := its.eraseIdx j) (t' := s.toks) hH e ?_ rr ?_, rfl, q⟩
    · show its.toArray.eraseIdxIfInBounds j = (its.eraseIdx j).toArray
      rw [List.eraseIdxIfInBounds_toArray]
    · rw [List.length_map, List.length_eraseIdx]
      split <;> omega
end Me
set_option maxHeartbeats 8000000
namespace Me
open PySem L2


theorem at_mem' {α : Type} {xs : List α} {i : Int} (h0 : 0 ≤ i) (h1 : i < (xs.length : Int)) : ∃ v, atI xs i = some v ∧ v ∈ xs := by
  obtain ⟨j, rfl⟩ := Int.eq_ofNat_of_zero_le h0
  have hj : j < xs.length := by omega
  exact ⟨xs[j], atI_nat (List.getElem?_eq_getElem hj), List.getElem_mem hj⟩
theorem tl_add (x y : Str) : (x ++ y).cps.toList = x.cps.toList ++ y.cps.toList := by
  show (x.cps ++ y.cps).toList = _
  rw [Array.toList_append]
theorem len_add (x y : Str) : (x ++ y).length = x.length + y.length := by
  show (x.cps ++ y.cps).size = _
  rw [Array.size_append]; rfl
theorem inV_str (z : Str) (ts : List Str) : inV (.str z) (ts.map V.str) = decide (z ∈ ts) := by
  unfold inV
  induction ts with
  | nil => rfl
  | cons t r ih =>
    rw [List.map_cons, List.any_cons, ih]
    show ((t == z) || _) = _
    by_cases h : t = z
    · subst h; simp
    · have : (t == z) = false := beq_eq_false_iff_ne.mpr h
      rw [this, Bool.false_or]
      by_cases q : z ∈ r
      · rw [decide_eq_true q, decide_eq_true (List.mem_cons_of_mem _ q)]
      · rw [decide_eq_false q, decide_eq_false]
        intro m
        rcases List.mem_cons.mp m with e | e
        · exact h e.symm
        · exact q e
theorem all_flat (ts : List Str) : (ts.map V.str).all flatV = true := by
  rw [List.all_eq_true]
  intro v hv
  obtain ⟨z, _, rfl⟩ := List.mem_map.mp hv
  rfl
theorem i_inS {K : PySem.W.Frag} {neg : Bool} {t : Addr} {ts : List Str} {z : Str} {H : Hp} {Q : VK} (h : H t = some (.lst (ts.map V.str))) (q : Q (.bl (if neg then !decide (z ∈ ts) else decide (z ∈ ts))) H) : rIn K neg (.str z) (.ref t) H Q :=
  ⟨t, _, rfl, .inl (SqL.of h), rfl, all_flat ts, by rw [inV_str]; exact q⟩
theorem pigeon {α : Type} [DecidableEq α] : ∀ {l m : List α}, l.Nodup → (∀ x ∈ l, x ∈ m) → l.length ≤ m.length
  | [], m, _, _ => Nat.zero_le _
  | a :: r, m, hn, hm => by
    have ha := hm a List.mem_cons_self
    obtain ⟨h1, h2⟩ := List.nodup_cons.mp hn
    have := pigeon (l := r) (m := m.erase a) h2 fun x hx => (List.mem_erase_of_ne fun e => h1 (by rw [← e]; exact hx)).mpr (hm x (List.mem_cons_of_mem _ hx))
    rw [List.length_erase_of_mem ha] at this
    have pos : 0 < m.length := List.length_pos_of_mem ha
    rw [List.length_cons]; omega
def abc : List Nat := ("abcdefghijklmnopqrstuvwxyz" : Str).cps.toList
theorem abc_len : abc.length = 26 := by decide +kernel
theorem abc_letter : ∀ c ∈ abc, letterB c = true := by decide +kernel
theorem abc_nodup : abc.Nodup := by decide +kernel
theorem free_letter (z : Str) (ts : List Str) (h : ts.length ≤ 20) : ∃ c ∈ abc, z ++ (⟨#[c]⟩ : Str) ∉ ts := by
  refine Classical.byContradiction fun no => ?_
  have all : ∀ x ∈ abc.map fun c => z ++ (⟨#[c]⟩ : Str), x ∈ ts := fun x hx => by
    obtain ⟨c, hc, rfl⟩ := List.mem_map.mp hx
    exact Classical.byContradiction fun n => no ⟨c, hc, n⟩
  have nd : (abc.map fun c => z ++ (⟨#[c]⟩ : Str)).Nodup := by
    refine List.Pairwise.map _ (fun a b ne e => ne ?_) abc_nodup
    have := congrArg (fun s : Str => s.cps.toList) e
    simp only [tl_add] at this
    have := List.append_cancel_left this
    simpa using this
  have := pigeon nd all
  rw [List.length_map, abc_len] at this
  omega
/-- all but the reader's list and the list at t stays -/
def Went2 (p t : Addr) (H H' : Hp) : Prop := StOk H' p ∧ ∀ a o, a ≠ p → a ≠ t → H a = some o → H' a = some o
section
variable {P : Program} {w : World} {K : PySem.W.Frag} {mg : Str → Option Value} {base : Heap} {a : Ad}
def spName : Sp := fun vs H Q _ => ∃ (p t : Addr) (ts : List Str), vs = [.ref p, .ref t] ∧ StOk H p ∧ H t = some (.lst (ts.map V.str)) ∧ t ≠ p ∧ ts.length ≤ 20 ∧ (∀ L, StAt H p L → t ≠ L) ∧ ∀ (z : Str) (H' : Hp), nameS z = true → z ∉ ts → Went2 p t H H' → H' t = some (.lst ((ts ++ [z]).map V.str)) → (∀ L, StAt H p L → StAt H' p L) → Q (.str z) H'
theorem ok_name (T : Txt K mg a) : FnOk P w K mg base CX0 2 a._law_name.f a._law_name.fd ["_law_state", "_law_taken"] spName := by
  have G__law_pull : FnOk P w K mg base CX0 1 a._law_pull.f a._law_pull.fd ["_law_state", "_law_many"] spPull := ok_pull T
  have sc : FnScope ["_law_state", "_law_taken", "_law_letters", "_law_word", "_law_k", "_law_letter"] ["_law_state", "_law_taken"] (defScope (top 34)) := ⟨rfl, rfl, rfl, by decide +kernel, rfl, by decide +kernel, by decide +kernel⟩
  refine T._law_name.ok sc (fun vs H Q E h => ?_) (fun cdv A outer s H vs Q E hr h => ?_)
  · obtain ⟨p, t, ts, rfl, _⟩ := h
    rfl
  · obtain ⟨p, t, ts, rfl, S, ht, tp, hl, tL, k⟩ := h
    refine ⟨_, (pss_cons (ps_set (i := 2) sc.nd rfl (by first | exact Or.inl rfl | exact Or.inr rfl) pe_str)
      (pss_cons (ps_set (i := 3) sc.nd rfl (by first | exact Or.inl rfl | exact Or.inr rfl) pe_str)
      (pss_cons (ps_for PassesOwn.never rfl (pi_range1 rfl T.range (pa_cons (pe_ix ix_list (pe_lst (pa_cons pe_int (pa_cons pe_int (pa_cons pe_int (pa_cons pe_int pa_nil))))) (pe_call G__law_pull (hr.mono (by first | decide | omega)) rfl T._law_pull.mg T._law_pull.kp T._law_pull.b .nil pass0 (pa_cons (pv 0) (pa_cons pe_int pa_nil))) (fun _ _ => rfl)) pa_nil)) (pg_name (i := 4) sc.nd rfl (by first | exact Or.inl rfl | exact Or.inr rfl))
      (pss_one (ps_set (i := 3) sc.nd rfl (by first | exact Or.inl rfl | exact Or.inr rfl) (pe_op op_add_str (pv 3) (pe_ix ix_str (pv 2) (pe_call G__law_pull (hr.mono (by first | decide | omega)) rfl T._law_pull.mg T._law_pull.kp T._law_pull.b .nil pass0 (pa_cons (pv 0) (pa_cons pe_int pa_nil))) (fun _ _ => rfl))))))
      (pss_cons (ps_if (pt_cmpR op_in_seq (pv 3) (pv 1) (by rfl))
      (pss_one (ps_set (i := 3) sc.nd rfl (by first | exact Or.inl rfl | exact Or.inr rfl) (pe_op op_add_str (pv 3) (pe_ix ix_list (pe_lc (te := tVar 5) (tt := tTest (tOp (rIn K true) (tOp (fun x y H Q => ∃ i j, x = .str i ∧ y = .str j ∧ i.length + j.length ≤ sizeLine ∧ Q (.str (i ++ j)) H) (tVar 3) (tVar 5)) (tVar 1))) (own := [("_law_letter", 5)]) (g := gName 5) (by rfl) sc.nd (pi_str (pv 2)) (blkOk_by (own := [("_law_letter", 5)]) (N := ["_law_state", "_law_taken", "_law_letters", "_law_word", "_law_k", "_law_letter"]) (sc := defScope (top 34)) (by decide +kernel)) (fun _ _ _ _ _ => pg_name (i := 5) sc.nd rfl (Or.inl rfl)) (fun _ _ _ _ _ => (by exact (pts_one (pt_cmpR op_notIn_seq (pe_op op_add_str (pv 3) (pv 5)) (pv 1) (by rfl))))) (fun _ _ _ _ _ => (by exact (pv 5)))) pe_int (fun _ _ => rfl)))))
      pss_nil)
      (pss_cons (ps_expr (pe_bm PySem.F.plainAttrs_list PySem.F.slot_list_append PySem.F.type_list_append mt_append (pv 1) (pa_cons (pv 3) pa_nil)))
      (pss_one (ps_ret (pv 3)))))))), ?_⟩
    walk_at "go"
    refine ⟨by decide, fun n1 nn1 => ?_⟩
    walk_at "go"
    have W0 : Went p H (upd H n1 (.lst [.int 1, .int 1, .int 2, .int 7])) := (Went.rfl' S).new nn1
    refine ⟨p, _, rfl, W0.1, by decide, by decide, fun r H1 r0 r1 W1 => ?_⟩
    have W01 := W0.trans W1
    have hn1 : H1 n1 = some (.lst [.int 1, .int 1, .int 2, .int 7]) := W1.get (S.ne nn1) upd_same
    obtain ⟨m, hm, hm0, hm1⟩ : ∃ m : Int, atI [V.int 1, .int 1, .int 2, .int 7] r = some (.int m) ∧ 1 ≤ m ∧ m ≤ 7 := by
      have : r = 0 ∨ r = 1 ∨ r = 2 ∨ r = 3 := by omega
      rcases this with rfl | rfl | rfl | rfl
      · exact ⟨1, rfl, by decide, by decide⟩
      · exact ⟨1, rfl, by decide, by decide⟩
      · exact ⟨2, rfl, by decide, by decide⟩
      · exact ⟨7, rfl, by decide, by decide⟩
    refine i_ixl hn1 hm ?_
    walk_at "go"
    refine ⟨m, rfl, by omega, by omega, for_range (n := m.toNat) (fun i σ H' => ∃ (z : Str) (v v2 : Option V), σ = [some (.ref p), some (.ref t), some (.str "abcdefghijklmnopqrstuvwxyz"), some (.str z), v, v2] ∧ z.length = i ∧ z.cps.toList.all letterB = true ∧ Went p H H') ⟨"", _, _, rfl, rfl, rfl, W01⟩ ?_ ?_⟩
    · rintro i σ H2 hi ⟨z, v, v2, rfl, hz, hzl, W2⟩
      walk_at "go"
      refine ⟨p, _, rfl, W2.1, by decide, by decide, fun r4 H4 q0 q1 W4 => ?_⟩
      obtain ⟨c, hc, hmem⟩ := at_mem' (xs := abc) q0 (by rw [abc_len]; omega)
      refine ⟨_, r4, c, rfl, rfl, by decide, hc, ?_⟩
      refine ⟨_, _, rfl, rfl, Nat.le_trans (show z.length + 1 ≤ 10 by omega) (by decide), ?_⟩
      walk_at "go"
      refine ⟨z ++ ⟨#[c]⟩, _, _, rfl, ?_, ?_, W2.trans W4⟩
      · rw [len_add]; show z.length + 1 = _; omega
      · rw [tl_add, List.all_append, hzl]; simp [abc_letter c hmem]
    · rintro σ H2 ⟨z, v, v2, rfl, hz, hzl, W2⟩
      have ht2 := W2.get tp ht
      have fin : ∀ (y : Str) H3 v3 v4, nameS y = true → y ∉ ts → Went p H H3 → tSeq (tDrop (tBM K "list" rAppend (tVar 1) (tCons (tVar 3) tNil))) (tRet (tVar 3)) { nx := fun _ H' => Q .non H', rt := Q } [some (.ref p), some (.ref t), some (.str "abcdefghijklmnopqrstuvwxyz"), some (.str y), v3, v4] H3 := by
        intro y H3 v3 v4 hy hny W3
        have ht3 := W3.get tp ht
        walk_at "go"
        refine ⟨.ref t, rfl, .inl ⟨rfl, _, SqL.of ht3⟩, ?_⟩
        walk_at "go"
        refine ⟨t, _, _, rfl, rfl, ht3, by rw [List.length_map]; exact Nat.lt_of_le_of_lt hl (by decide), ?_⟩
        walk_at "go"
        have tL2 : ∀ L, StAt H p L → StAt (upd H3 t (.lst (ts.map V.str ++ [.str y]))) p L := fun L hL => by
          obtain ⟨ns, i, b, c, h1, h2, h3⟩ := W3.2.2 L hL
          exact ⟨ns, i, b, c, by rw [upd_ne tp.symm]; exact h1, by rw [upd_ne (tL L hL).symm]; exact h2, h3⟩
        refine k y _ hy hny ⟨?_, fun b o nb nt e => ?_⟩ (by rw [upd_same, List.map_append]; rfl) tL2
        · obtain ⟨L, hL⟩ := S
          exact ⟨L, tL2 L hL⟩
        · rw [upd_ne nt]; exact W3.2.1 b o nb e
      have m8 : m.toNat ≤ 7 := by omega
      have m1 : 1 ≤ m.toNat := by omega
      walk_at "go"
      refine i_inS (neg := false) ht2 ⟨_, rfl, ?_⟩
      refine i_itd (fun hin => ?_) (fun hin => ?_)
      · walk_at "go"
        refine ⟨.str "abcdefghijklmnopqrstuvwxyz", rfl, _, rfl, fun D nD => ?_⟩
        have Dp : D ≠ p := W2.1.ne nD
        have Dt : t ≠ D := ne_of_none ht2 nD
        refine lc_its (fun i H' => ∃ acc : List Nat, H' = upd H2 D (.lst (acc.map fun c => .str ⟨#[c]⟩)) ∧ (∀ c ∈ acc, letterB c = true ∧ z ++ (⟨#[c]⟩ : Str) ∉ ts) ∧ acc.length ≤ i ∧ (acc = [] → ∀ c, c ∈ abc.take i → z ++ (⟨#[c]⟩ : Str) ∈ ts)) ⟨[], rfl, by simp, by simp, by simp⟩ ?_ ?_
        · rintro i c H3 hc ⟨acc, rfl, hal, hai, hae⟩
          have hc' : abc[i]? = some c := by unfold abc; rw [Array.getElem?_toList]; exact hc
          have i26 : i < 26 := by rw [← abc_len]; exact (List.getElem?_eq_some_iff.mp hc').1
          refine ⟨rfl, ?_⟩
          walk_at "go"
          refine ⟨_, _, rfl, rfl, Nat.le_trans (show z.length + 1 ≤ 10 by omega) (by decide), ?_⟩
          walk_at "go"
          refine i_inS (neg := true) (by rw [upd_ne Dt]; exact ht2) ⟨_, rfl, ?_⟩
          refine i_itn (fun hn => ?_) (fun hn => ?_)
          · walk_at "go"
            refine ⟨_, upd_same, by rw [List.length_map]; exact Nat.lt_of_le_of_lt (show acc.length ≤ 26 by omega) (by decide), acc ++ [c], by rw [upd_upd, List.map_append]; rfl, ?_, ?_, fun e => by simp at e⟩
            · intro c' hc'
              rcases List.mem_append.mp hc' with h | h
              · exact hal _ h
              · rw [List.mem_singleton.mp h]; exact ⟨abc_letter _ (List.mem_of_getElem? (by assumption)), hn⟩
            · rw [List.length_append]; show acc.length + 1 ≤ _; omega
          · refine ⟨acc, rfl, hal, by omega, fun e c' hm => ?_⟩
            rw [take_get hc'] at hm
            rcases List.mem_append.mp hm with h | h
            · exact hae e c' h
            · rw [List.mem_singleton.mp h]; exact hn
        · rintro H3 ⟨acc, rfl, hal, hai, hae⟩
          cases acc with
          | nil =>
            obtain ⟨c, hc, hno⟩ := free_letter z ts hl
            exact absurd (hae rfl c (by
              have e : ("abcdefghijklmnopqrstuvwxyz" : Str).cps.size = abc.length := by unfold abc; rw [Array.length_toList]
              rw [e, List.take_length]; exact hc)) hno
          | cons c r =>
            walk_at "go"
            refine i_ixl upd_same (v := .str ⟨#[c]⟩) (atI_nat (j := 0) rfl) ?_
            refine ⟨_, _, rfl, rfl, Nat.le_trans (show z.length + 1 ≤ 10 by omega) (by decide), ?_⟩
            refine fin _ _ _ _ ?_ (hal c List.mem_cons_self).2 (W2.new nD)
            unfold nameS
            rw [len_add, tl_add, List.all_append, hzl, hz]
            have e1 : decide (1 ≤ m.toNat + (⟨#[c]⟩ : Str).length) = true := decide_eq_true (by omega)
            have e2 : decide (m.toNat + (⟨#[c]⟩ : Str).length ≤ 8) = true := decide_eq_true (by show m.toNat + 1 ≤ 8; omega)
            rw [e1, e2]
            have := (hal c List.mem_cons_self).1
            simp [this]
      · refine fin _ _ _ _ ?_ hin W2
        unfold nameS
        rw [hzl, hz]
        have e1 : decide (1 ≤ m.toNat) = true := decide_eq_true m1
        have e2 : decide (m.toNat ≤ 8) = true := decide_eq_true (by omega)
        rw [e1, e2]; rfl
end
end Me
set_option maxHeartbeats 8000000
namespace Me
open PySem L2


theorem first_at' {α : Type} [DecidableEq α] : ∀ {l : List α} {k : α}, k ∈ l → ∃ j, l[j]? = some k ∧ ∀ m : Nat, m < j → l[m]? ≠ some k
  | a :: r, k, h => by
    by_cases e : a = k
    · exact ⟨0, by rw [e]; rfl, fun m hm => by omega⟩
    · rcases List.mem_cons.mp h with h | h
      · exact absurd h.symm e
      · obtain ⟨j, h1, h2⟩ := first_at' h
        refine ⟨j + 1, h1, fun m hm => ?_⟩
        cases m with
        | zero => intro z; exact e (Option.some.inj z)
        | succ m => exact h2 m (by omega)
theorem sum_erase {α : Type} (f : α → Nat) : ∀ {l : List α} {j : Nat} {k : α}, l[j]? = some k → (l.map f).sum = f k + ((l.eraseIdx j).map f).sum
  | a :: r, 0, k, h => by cases h; simp
  | a :: r, j + 1, k, h => by
    have := sum_erase f (l := r) (j := j) h
    simp only [List.map_cons, List.sum_cons, List.eraseIdx_cons_succ, this]
    omega
def bitsS (z : Str) : Bool := z.cps.toList.all bitB
structure WordS (z : Str) : Prop where
  l0 : 1 ≤ z.length
  l8 : z.length ≤ 8
  b : bitsS z = true
def wt (z : Str) : Nat := 2 ^ (8 - z.length)
theorem sum_ge {l : List Str} (h : ∀ z ∈ l, wt z = 1) : (l.map wt).sum = l.length := by
  induction l with
  | nil => rfl
  | cons a r ih =>
    rw [List.map_cons, List.sum_cons, ih fun z hz => h z (List.mem_cons_of_mem _ hz), h a List.mem_cons_self, List.length_cons]
    omega
theorem some_short {l : List Str} (h : ∀ z ∈ l, WordS z) (hs : (l.map wt).sum = 256) (hl : l.length ≤ 100) : (l.filter fun z => decide (z.length < 8)) ≠ [] := by
  intro e
  have : ∀ z ∈ l, wt z = 1 := fun z hz => by
    have h8 := (h z hz).l8
    have n : ¬ z.length < 8 := fun lt => by
      have : z ∈ l.filter fun z => decide (z.length < 8) := List.mem_filter.mpr ⟨hz, decide_eq_true lt⟩
      rw [e] at this; cases this
    have : z.length = 8 := by omega
    unfold wt; rw [this]
  rw [sum_ge this] at hs
  omega
theorem bits_add {x y : Str} (hx : bitsS x = true) (hy : bitsS y = true) : bitsS (x ++ y) = true := by
  unfold bitsS at *
  rw [tl_add, List.all_append, hx, hy]; rfl
theorem sw_iff (x y : Str) : Txt.startswith x y = true ↔ y.cps.toList <+: x.cps.toList := by
  unfold Txt.startswith Builtin.Str.subAt
  simp only [Nat.zero_add, Bool.and_eq_true, decide_eq_true_eq]
  have hl : ∀ z : Str, z.length = z.cps.toList.length := fun z => by show z.cps.size = _; simp
  have e : (x.cps.extract 0 y.length == y.cps) = true ↔ x.cps.toList.take y.cps.toList.length = y.cps.toList := by
    rw [beq_iff_eq, ← Array.toList_inj, Array.toList_extract, hl y]
    simp [List.extract]
  rw [e, hl, hl]
  constructor
  · rintro ⟨_, h⟩
    rw [← h]
    exact List.take_prefix _ _
  · intro h
    exact ⟨h.length_le, (List.prefix_iff_eq_take.mp h).symm⟩
theorem erase_perm {α : Type} : ∀ {l : List α} {j : Nat} {u : α}, l[j]? = some u → (u :: l.eraseIdx j).Perm l
  | [], j, u, h => by simp at h
  | a :: r, 0, u, h => by
    simp only [List.getElem?_cons_zero, Option.some.injEq] at h
    subst h
    exact .refl _
  | a :: r, j + 1, u, h => by
    have ih := erase_perm (l := r) (j := j) (u := u) h
    show (u :: a :: r.eraseIdx j).Perm (a :: r)
    exact (List.Perm.swap a u _).trans (ih.cons a)
theorem apart_perm {l m : List Str} (p : l.Perm m) (h : Apart l) : Apart m := (List.Perm.pairwise_iff (fun {x y} h => by rw [clash_comm]; exact h) p).mp h
theorem clash_iff (x y : Str) : clash x y = false ↔ ¬ y.cps.toList <+: x.cps.toList ∧ ¬ x.cps.toList <+: y.cps.toList := by
  unfold clash
  rw [Bool.or_eq_false_iff, ← sw_iff, ← sw_iff, Bool.not_eq_true, Bool.not_eq_true]
theorem clash_add {x u : Str} (s : Str) (h : clash u x = false) : clash x (u ++ s) = false := by
  obtain ⟨h1, h2⟩ := (clash_iff u x).mp h
  refine (clash_iff x (u ++ s)).mpr ⟨fun p => ?_, fun p => ?_⟩
  · rw [tl_add] at p
    exact h2 ((List.prefix_append _ _).trans p)
  · rw [tl_add] at p
    rcases Nat.le_total x.cps.toList.length u.cps.toList.length with l | l
    · exact h1 (List.prefix_of_prefix_length_le p (List.prefix_append _ _) l)
    · exact h2 (List.prefix_of_prefix_length_le (List.prefix_append _ _) p l)
theorem clash01 (u : Str) : clash (u ++ "0") (u ++ "1") = false := by
  refine (clash_iff _ _).mpr ⟨fun p => ?_, fun p => ?_⟩ <;>
  · rw [tl_add, tl_add, List.prefix_append_right_inj] at p
    exact absurd p (by decide)
theorem apart_split {ls : List Str} {j : Nat} {u : Str} (hj : ls[j]? = some u) (h : Apart ls) : Apart (ls.eraseIdx j ++ [u ++ "0", u ++ "1"]) := by
  have h1 := apart_perm (erase_perm hj).symm h
  obtain ⟨h2, h3⟩ := List.pairwise_cons.mp h1
  refine List.pairwise_append.mpr ⟨h3, ?_, fun x hx y hy => ?_⟩
  · exact .cons (fun y hy => by rw [List.mem_singleton.mp hy]; exact clash01 u) (.cons (fun y hy => by cases hy) .nil)
  · simp only [List.mem_cons, List.not_mem_nil, or_false] at hy
    rcases hy with rfl | rfl
    · exact clash_add _ (h2 x hx)
    · exact clash_add _ (h2 x hx)
theorem apart_move {ws ls : List Str} {j : Nat} {u : Str} (hj : ls[j]? = some u) (h : Apart (ws ++ ls)) : Apart ((ws ++ [u]) ++ ls.eraseIdx j) := by
  refine apart_perm ?_ h
  rw [List.append_assoc]
  exact ((erase_perm hj).symm).append_left ws
section
variable {P : Program} {w : World} {K : PySem.W.Frag} {mg : Str → Option Value} {base : Heap} {a : Ad}
def spBitsG : Sp := fun vs H Q _ => ∃ (p : Addr) (n : Int), vs = [.ref p, .int n] ∧ StOk H p ∧ 0 ≤ n ∧ n ≤ 8 ∧ ∀ (z : Str) (H' : Hp), z.length = n.toNat → bitsS z = true → Went p H H' → Q (.str z) H'
theorem ok_bitsG (T : Txt K mg a) : FnOk P w K mg base CX0 2 a._law_bits.f a._law_bits.fd ["_law_state", "_law_many"] spBitsG := by
  have G__law_pull : FnOk P w K mg base CX0 1 a._law_pull.f a._law_pull.fd ["_law_state", "_law_many"] spPull := ok_pull T
  have sc : FnScope ["_law_state", "_law_many", "_law_text", "_law_k"] ["_law_state", "_law_many"] (defScope (top 35)) := ⟨rfl, rfl, rfl, by decide +kernel, rfl, by decide +kernel, by decide +kernel⟩
  refine T._law_bits.ok sc (fun vs H Q E h => ?_) (fun cdv A outer s H vs Q E hr h => ?_)
  · obtain ⟨p, n, rfl, _⟩ := h
    rfl
  · obtain ⟨p, n, rfl, S, hn0, hn1, k⟩ := h
    refine ⟨_, (pss_cons (ps_set (i := 2) sc.nd rfl (by first | exact Or.inl rfl | exact Or.inr rfl) pe_str)
      (pss_cons (ps_for PassesOwn.never rfl (pi_range1 rfl T.range (pa_cons (pv 1) pa_nil)) (pg_name (i := 3) sc.nd rfl (by first | exact Or.inl rfl | exact Or.inr rfl))
      (pss_one (ps_set (i := 2) sc.nd rfl (by first | exact Or.inl rfl | exact Or.inr rfl) (pe_op op_add_str (pv 2) (pe_ix ix_str pe_str (pe_call G__law_pull (hr.mono (by first | decide | omega)) rfl T._law_pull.mg T._law_pull.kp T._law_pull.b .nil pass0 (pa_cons (pv 0) (pa_cons pe_int pa_nil))) (fun _ _ => rfl))))))
      (pss_one (ps_ret (pv 2))))), ?_⟩
    walk_at "go"
    refine ⟨_, rfl, n, rfl, by omega, by omega, for_range (n := n.toNat) (fun i σ H' => ∃ (z : Str) (v : Option V), σ = [some (.ref p), some (.int n), some (.str z), v] ∧ z.length = i ∧ bitsS z = true ∧ Went p H H') ⟨"", _, rfl, rfl, rfl, Went.rfl' S⟩ ?_ ?_⟩
    · rintro i σ H2 hi ⟨z, v, rfl, hz, hzl, W2⟩
      walk_at "go"
      refine ⟨p, _, rfl, W2.1, by decide, by decide, fun r4 H4 q0 q1 W4 => ?_⟩
      have hl : (("01" : Str).cps.toList).length = 2 := by decide
      obtain ⟨c, hc, hmem⟩ := at_mem' (xs := ("01" : Str).cps.toList) q0 (by rw [hl]; omega)
      have hcb : bitB c = true := by
        have : ∀ c ∈ ("01" : Str).cps.toList, bitB c = true := by decide
        exact this c hmem
      refine ⟨_, r4, c, rfl, rfl, by decide, hc, ?_⟩
      refine ⟨_, _, rfl, rfl, Nat.le_trans (show z.length + 1 ≤ 10 by omega) (by decide), ?_⟩
      walk_at "go"
      refine ⟨z ++ ⟨#[c]⟩, _, rfl, ?_, bits_add hzl (by simp [bitsS, hcb]), W2.trans W4⟩
      rw [len_add]; show z.length + 1 = _; omega
    · rintro σ H2 ⟨z, v, rfl, hz, hzl, W2⟩
      walk_at "go"
      exact k z _ hz hzl W2
def spWordsG : Sp := fun vs H Q _ => ∃ (p : Addr) (n : Int), vs = [.ref p, .int n] ∧ StOk H p ∧ 1 ≤ n ∧ n ≤ 13 ∧ ∀ (D : Addr) (ws : List Str) (H' : Hp), H D = none → H' D = some (.lst (ws.map V.str)) → ws.length = n.toNat → (∀ z ∈ ws, WordS z) → Apart ws → Went p H H' → Q (.ref D) H'
theorem ok_wordsG (T : Txt K mg a) : FnOk P w K mg base CX0 2 a._law_words.f a._law_words.fd ["_law_state", "_law_many"] spWordsG := by
  have G__law_pull : FnOk P w K mg base CX0 1 a._law_pull.f a._law_pull.fd ["_law_state", "_law_many"] spPull := ok_pull T
  have sc : FnScope ["_law_state", "_law_many", "_law_leaves", "_law_k", "_law_short", "_law_leaf", "_law_words_here"] ["_law_state", "_law_many"] (defScope (top 36)) := ⟨rfl, rfl, rfl, by decide +kernel, rfl, by decide +kernel, by decide +kernel⟩
  refine T._law_words.ok sc (fun vs H Q E h => ?_) (fun cdv A outer s H vs Q E hr h => ?_)
  · obtain ⟨p, n, rfl, _⟩ := h
    rfl
  · obtain ⟨p, n, rfl, S, hn0, hn1, k⟩ := h
    refine ⟨_, (pss_cons (ps_set (i := 2) sc.nd rfl (by first | exact Or.inl rfl | exact Or.inr rfl) (pe_lst (pa_cons pe_str (pa_cons pe_str pa_nil))))
      (pss_cons (ps_for PassesOwn.never rfl (pi_range1 rfl T.range (pa_cons (pe_op op_add (pe_op op_sub (pv 1) pe_int) (pe_call G__law_pull (hr.mono (by first | decide | omega)) rfl T._law_pull.mg T._law_pull.kp T._law_pull.b .nil pass0 (pa_cons (pv 0) (pa_cons pe_int pa_nil)))) pa_nil)) (pg_name (i := 3) sc.nd rfl (by first | exact Or.inl rfl | exact Or.inr rfl))
      (pss_cons (ps_setLc (i := 4) (own := [("_law_leaf", 5)]) (g := gName 5) (by rfl) sc.nd rfl rfl (sw_true rfl rfl rfl (by decide +kernel)) (pi_list (pv 2)) (blkOk_by (own := [("_law_leaf", 5)]) (N := ["_law_state", "_law_many", "_law_leaves", "_law_k", "_law_short", "_law_leaf", "_law_words_here"]) (sc := defScope (top 36)) (by decide +kernel)) (fun _ _ _ _ _ => pg_name (i := 5) sc.nd rfl (Or.inl rfl)) (fun _ _ _ _ _ => (pts_one (pt_cmpR op_lt (pe_callB call_len_str (by rfl) T.len PySem.boot_len (pa_cons (pv 5) pa_nil)) pe_int (nomark _)))) (fun _ _ _ _ _ => (by exact (pv 5))))
      (pss_cons (ps_set (i := 5) sc.nd rfl (by first | exact Or.inl rfl | exact Or.inr rfl) (pe_ix ix_list (pv 4) (pe_call G__law_pull (hr.mono (by first | decide | omega)) rfl T._law_pull.mg T._law_pull.kp T._law_pull.b .nil pass0 (pa_cons (pv 0) (pa_cons (pe_callB call_len_seq (by rfl) T.len PySem.boot_len (pa_cons (pv 4) pa_nil)) pa_nil))) (fun _ _ => rfl)))
      (pss_cons (ps_expr (pe_bm PySem.F.plainAttrs_list PySem.F.slot_list_remove PySem.F.type_list_remove mt_removeS (pv 2) (pa_cons (pv 5) pa_nil)))
      (pss_one (ps_expr (pe_bm PySem.F.plainAttrs_list PySem.F.slot_list_extend PySem.F.type_list_extend mt_extend (pv 2) (pa_cons (pe_lst (pa_cons (pe_op op_add_str (pv 5) pe_str) (pa_cons (pe_op op_add_str (pv 5) pe_str) pa_nil))) pa_nil))))))))
      (pss_cons (ps_set (i := 6) sc.nd rfl (by first | exact Or.inl rfl | exact Or.inr rfl) (pe_lst pa_nil))
      (pss_cons (ps_for PassesOwn.never rfl (pi_range1 rfl T.range (pa_cons (pv 1) pa_nil)) (pg_name (i := 3) sc.nd rfl (by first | exact Or.inl rfl | exact Or.inr rfl))
      (pss_one (ps_expr (pe_bm PySem.F.plainAttrs_list PySem.F.slot_list_append PySem.F.type_list_append mt_append (pv 6) (pa_cons (pe_bm PySem.F.plainAttrs_list PySem.F.slot_list_pop PySem.F.type_list_pop mt_popAt (pv 2) (pa_cons (pe_call G__law_pull (hr.mono (by first | decide | omega)) rfl T._law_pull.mg T._law_pull.kp T._law_pull.b .nil pass0 (pa_cons (pv 0) (pa_cons (pe_callB call_len_seq (by rfl) T.len PySem.boot_len (pa_cons (pv 2) pa_nil)) pa_nil))) pa_nil)) pa_nil)))))
      (pss_one (ps_ret (pv 6))))))), ?_⟩
    walk_at "go"
    rename_i A nA
    have Ap : A ≠ p := S.ne nA
    have W0 : Went p H (upd H A (.lst [.str "0", .str "1"])) := (Went.rfl' S).new nA
    walk_at "go"
    refine ⟨.int n, rfl, n, 2, rfl, rfl, .ref p, rfl, p, 3, rfl, W0.1, by decide, by decide, fun r H1 r0 r1 W1 => ?_⟩
    have W01 := W0.trans W1
    have hA1 : H1 A = some (.lst [.str "0", .str "1"]) := W1.get Ap upd_same
    refine ⟨_, _, rfl, rfl, n - 2 + r, rfl, by omega, by omega, for_range (n := (n - 2 + r).toNat) (fun i σ H' => ∃ (ls : List Str) (v3 v4 v5 v6 : Option V), σ = [some (.ref p), some (.int n), some (.ref A), v3, v4, v5, v6] ∧ H' A = some (.lst (ls.map V.str)) ∧ ((∀ z ∈ ls, WordS z) ∧ Apart ls) ∧ (ls.map wt).sum = 256 ∧ ls.length = 2 + i ∧ Went p H H')
      ⟨["0", "1"], _, _, _, _, rfl, hA1, ⟨?_, .cons (fun y hy => by rw [List.mem_singleton.mp hy]; decide) (.cons (fun y hy => by cases hy) .nil)⟩, rfl, rfl, W01⟩ ?_ ?_⟩
    · intro z hz
      simp only [List.mem_cons, List.not_mem_nil, or_false] at hz
      rcases hz with rfl | rfl
      · exact ⟨by decide, by decide, by decide⟩
      · exact ⟨by decide, by decide, by decide⟩
    · rintro i σ H2 hi ⟨ls, v3, v4, v5, v6, rfl, hA2, ⟨hw, hap⟩, hsum, hlen, W2⟩
      have hlen16 : ls.length ≤ 20 := by omega
      walk_at "go"
      refine ⟨.ref A, rfl, A, rfl, ⟨_, SqL.of hA2⟩, fun D nD => ?_⟩
      have Dp : D ≠ p := W2.1.ne nD
      have DA : A ≠ D := ne_of_none hA2 nD
      refine lc_list (xs := ls.map V.str) (fun i H' => H' = upd H2 D (.lst (((ls.take i).filter fun z => decide (z.length < 8)).map V.str))) rfl (fun i H3 _ e => by rw [e]; exact SqL.of (by rw [upd_ne DA]; exact hA2)) ?_ ?_
      · rintro j x H3 hx rfl
        rw [List.getElem?_map] at hx
        cases hu : ls[j]? with
        | none => rw [hu] at hx; cases hx
        | some u =>
          rw [hu] at hx
          cases hx
          have et := take_get hu
          refine ⟨rfl, ?_⟩
          walk_at "go"
          refine ⟨u, rfl, Nat.le_trans (hw u (List.mem_of_getElem? hu)).l8 (by decide), ?_⟩
          walk_at "go"
          have small : (((ls.take j).filter fun z => decide (z.length < 8)).map V.str).length < sizeLine := by
            rw [List.length_map]
            refine Nat.lt_of_le_of_lt (Nat.le_trans (List.length_filter_le _ _) (Nat.le_trans (List.length_take_le _ _) (by omega : j ≤ j))) ?_
            have := (List.getElem?_eq_some_iff.mp hu).1
            exact Nat.lt_of_lt_of_le (by omega : j < 21) (by decide)
          refine i_itd (fun q => ?_) (fun q => ?_)
          · have q' : u.length < 8 := by omega
            refine ⟨.str u, rfl, _, upd_same, small, ?_⟩
            rw [upd_upd, et, List.filter_append, List.map_append]
            simp [q']
          · have q' : ¬ u.length < 8 := by omega
            rw [et, List.filter_append]
            simp [q']
      · rintro H3 rfl
        rw [List.length_map, List.take_length]
        have hFne := some_short hw hsum (by omega)
        have hFm : ∀ u ∈ (ls.filter fun z => decide (z.length < 8)), u ∈ ls ∧ u.length < 8 := fun u hu => by
          have := List.mem_filter.mp hu
          exact ⟨this.1, of_decide_eq_true this.2⟩
        have hFl : (ls.filter fun z => decide (z.length < 8)).length ≤ 20 := Nat.le_trans (List.length_filter_le _ _) hlen16
        generalize (ls.filter fun z => decide (z.length < 8)) = F at hFne hFm hFl ⊢
        have W3 : Went p H (upd H2 D (.lst (F.map V.str))) := W2.new nD
        have hD3 : upd H2 D (.lst (F.map V.str)) D = some (.lst (F.map V.str)) := upd_same
        have hA3 : upd H2 D (.lst (F.map V.str)) A = some (.lst (ls.map V.str)) := by rw [upd_ne DA]; exact hA2
        generalize upd H2 D (.lst (F.map V.str)) = H3 at W3 hD3 hA3 ⊢
        have hF0 : 0 < F.length := List.length_pos_iff.mpr hFne
        walk_at "go"
        refine ⟨p, _, rfl, W3.1, by rw [List.length_map]; omega, by rw [List.length_map]; omega, fun r2 H4 q0 q1 W4 => ?_⟩
        walk_at "go"
        have hD4 := W4.get Dp hD3
        have hA4 := W4.get Ap hA3
        have W34 := W3.trans W4
        obtain ⟨v, hv, hm⟩ := at_mem' q0 q1
        obtain ⟨u, hu, rfl⟩ := List.mem_map.mp hm
        obtain ⟨hul, hu8⟩ := hFm u hu
        obtain ⟨j, hj, hno⟩ := first_at' hul
        refine i_ixl hD4 hv ?_
        walk_at "go"
        refine ⟨.ref A, rfl, .inl ⟨rfl, _, SqL.of hA4⟩, ?_⟩
        walk_at "go"
        refine ⟨A, ls, u, j, rfl, rfl, hA4, hj, hno, ?_⟩
        walk_at "go"
        refine ⟨.ref A, rfl, .inl ⟨rfl, _, SqL.of upd_same⟩, ?_⟩
        walk_at "go"
        refine ⟨u, "0", rfl, rfl, Nat.le_trans (show u.length + 1 ≤ 10 by omega) (by decide), ?_⟩
        walk_at "go"
        refine ⟨u, "1", rfl, rfl, Nat.le_trans (show u.length + 1 ≤ 10 by omega) (by decide), ?_⟩
        walk_at "go"
        rename_i B nB
        have AB : A ≠ B := ne_of_none upd_same nB
        have lene : (ls.eraseIdx j).length = ls.length - 1 := by
          rw [List.length_eraseIdx, if_pos (List.getElem?_eq_some_iff.mp hj).1]
        refine ⟨A, B, (ls.eraseIdx j).map V.str, [.str (u ++ "0"), .str (u ++ "1")], rfl, rfl, by rw [upd_ne AB, upd_same], upd_same, ?_, ?_⟩
        · rw [List.length_map, lene]
          exact Nat.le_trans (show ls.length - 1 + 2 ≤ 30 by omega) (by decide)
        · have wu := hw u hul
          refine ⟨ls.eraseIdx j ++ [u ++ "0", u ++ "1"], _, _, _, _, rfl, by rw [upd_same, List.map_append]; rfl, ⟨?_, apart_split hj hap⟩, ?_, ?_, ?_⟩
          · intro z hz
            rcases List.mem_append.mp hz with h | h
            · exact hw z (List.mem_of_mem_eraseIdx h)
            · simp only [List.mem_cons, List.not_mem_nil, or_false] at h
              rcases h with rfl | rfl
              · exact ⟨by rw [len_add]; show 1 ≤ u.length + 1; omega, by rw [len_add]; show u.length + 1 ≤ 8; omega, bits_add wu.b (by decide)⟩
              · exact ⟨by rw [len_add]; show 1 ≤ u.length + 1; omega, by rw [len_add]; show u.length + 1 ≤ 8; omega, bits_add wu.b (by decide)⟩
          · have e1 := sum_erase wt hj
            rw [hsum] at e1
            rw [List.map_append, List.sum_append]
            have e2 : wt (u ++ "0") = 2 ^ (7 - u.length) := by
              unfold wt; rw [len_add]; show 2 ^ (8 - (u.length + 1)) = _; congr 1; omega
            have e3 : wt (u ++ "1") = 2 ^ (7 - u.length) := by
              unfold wt; rw [len_add]; show 2 ^ (8 - (u.length + 1)) = _; congr 1; omega
            have e4 : wt u = 2 * 2 ^ (7 - u.length) := by
              unfold wt
              have : 8 - u.length = (7 - u.length) + 1 := by omega
              rw [this, Nat.pow_succ]; omega
            simp only [List.map_cons, List.map_nil, List.sum_cons, List.sum_nil, e2, e3]
            omega
          · rw [List.length_append, lene]; show ls.length - 1 + 2 = _; omega
          · have nA' : H A = none := nA
            exact Went.wr S (Went.new (Went.wr S W34 nA' Ap) nB) nA' Ap
    · rintro σ H2 ⟨ls, v3, v4, v5, v6, rfl, hA2, ⟨hw, hap⟩, hsum, hlen, W2⟩
      clear hsum
      have hlen2 : n.toNat ≤ ls.length := by omega
      have hlen16 : ls.length ≤ 20 := by omega
      walk_at "go"
      rename_i B nB
      have Bp : B ≠ p := W2.1.ne nB
      have AB : A ≠ B := ne_of_none hA2 nB
      have nB0 : H B = none := W2.none nB Bp
      refine ⟨.int n, rfl, n, rfl, by omega, by omega, for_range (n := n.toNat) (fun i σ H' => ∃ (ls' ws : List Str) (v3 v4 v5 : Option V), σ = [some (.ref p), some (.int n), some (.ref A), v3, v4, v5, some (.ref B)] ∧ H' A = some (.lst (ls'.map V.str)) ∧ H' B = some (.lst (ws.map V.str)) ∧ ((∀ z ∈ ls', WordS z) ∧ Apart (ws ++ ls')) ∧ (∀ z ∈ ws, WordS z) ∧ ws.length = i ∧ ls'.length + i = ls.length ∧ Went p H H')
        ⟨ls, [], _, _, _, rfl, by rw [upd_ne AB]; exact hA2, upd_same, ⟨hw, hap⟩, by simp, rfl, rfl, W2.new nB⟩ ?_ ?_⟩
      · rintro i σ H3 hi ⟨ls', ws, v3, v4, v5, rfl, hA3, hB3, ⟨hw1, hap1⟩, hw2, hl1, hl2, W3⟩
        walk_at "go"
        refine ⟨.ref B, rfl, .inl ⟨rfl, _, SqL.of hB3⟩, ?_⟩
        walk_at "go"
        refine ⟨.ref A, rfl, .inl ⟨rfl, _, SqL.of hA3⟩, ?_⟩
        walk_at "go"
        refine ⟨p, _, rfl, W3.1, by rw [List.length_map]; omega, by rw [List.length_map]; omega, fun r2 H4 q0 q1 W4 => ?_⟩
        have hA4 := W4.get Ap hA3
        have hB4 := W4.get Bp hB3
        obtain ⟨j, rfl⟩ := Int.eq_ofNat_of_zero_le q0
        have hj : j < ls'.length := by rw [List.length_map] at q1; omega
        walk_at "go"
        refine ⟨A, _, _, j, .str ls'[j], rfl, rfl, hA4, by omega, by omega, ?_, by rw [List.getElem?_map, List.getElem?_eq_getElem hj]; rfl, ?_⟩
        · rw [List.length_map]
          exact (ixN_seq (by unfold ixN; rw [if_pos (by omega), if_pos (by omega)]; simp)).1
        walk_at "go"
        refine ⟨B, _, _, rfl, rfl, by rw [upd_ne AB.symm]; exact hB4, by rw [List.length_map]; exact Nat.lt_of_le_of_lt (by omega : ws.length ≤ 20) (by decide), ?_⟩
        refine ⟨ls'.eraseIdx j, ws ++ [ls'[j]], _, _, _, rfl, ?_, by rw [upd_same, List.map_append]; rfl, ⟨fun z hz => hw1 z (List.mem_of_mem_eraseIdx hz), apart_move (List.getElem?_eq_getElem hj) hap1⟩, ?_, by rw [List.length_append, hl1]; rfl, ?_, ?_⟩
        · rw [upd_ne AB, upd_same, erase_mapS]
        · intro z hz
          rcases List.mem_append.mp hz with h | h
          · exact hw2 z h
          · rw [List.mem_singleton.mp h]; exact hw1 _ (List.getElem_mem hj)
        · rw [List.length_eraseIdx, if_pos hj]; omega
        · exact Went.wr S (Went.wr S (W3.trans W4) nA Ap) nB0 Bp
      · rintro σ H3 ⟨ls', ws, v3, v4, v5, rfl, hA3, hB3, ⟨hw1, hap1⟩, hw2, hl1, hl2, W3⟩
        walk_at "go"
        exact k B ws H3 nB0 hB3 hl1 hw2 (List.pairwise_append.mp hap1).1 W3
end
end Me
set_option maxHeartbeats 8000000
namespace Me
open PySem PySem.Spec PyProof.Rows L2
theorem tuple_eqB {prog : Program} {w : World} {A : Around} {R : Result → Shared → Prop} (l b : Addr) (items items2 : Array Value) (n n2 : Nat) (dd dd2 : Option Addr) (sl sl2 : Array (Option Value)) (e : Nat → Bool) (I : Nat → Shared → Prop)
    (turn : ∀ (i : Nat) (h1 : i < items.size) (h2 : i < items2.size) (s : Shared), I i s → wpAny (model prog w) A.in1 (eqBool items[i] items2[i]) (fun r s' => r = e i ∧ I (i + 1) s') (fun e s' => R (.error e) s') s)
    (stop : ∀ (i : Nat) (s : Shared), i < items.size → i < items2.size → e i = false → I (i + 1) s → R (.ok (.ret (.bool false))) s)
    (all : ∀ (s : Shared), (∀ i, i < items.size → i < items2.size → e i = true) → I (min items.size items2.size) s → R (.ok (.ret (.bool (items.size == items2.size)))) s)
    {s : Shared} (hl : s.heap.get? l = some { cls := Value.type "tuple", dict := dd, data := Data.seq items n, slots := sl })
    (hb : s.heap.get? b = some { cls := Value.type "tuple", dict := dd2, data := Data.seq items2 n2, slots := sl2 }) (h0 : I 0 s) :
    wpAny (model prog w) A.in1 (Builtin.«tuple.__eq__» { pos := [Value.ref l, Value.ref b] }) (GQ.FinOf prog w A R) (fun e s' => R (.error e) s') s := by
  have zl : (items.toList.zip items2.toList).length = min items.size items2.size := by rw [List.length_zip, Array.length_toList, Array.length_toList]
  unfold Builtin.«tuple.__eq__»
  repeat wp_step
  unfold isSubtype
  repeat (first
    | refine wpAny_bind (wpAny_forIn_list _ (fun rest b s' => ∃ i, i ≤ min items.size items2.size ∧ rest = (items.toList.zip items2.toList).drop i ∧ b = (none, ()) ∧ I i s' ∧ ∀ j, j < i → e j = true) _ ?step ?fin _ _ ?init)
    | wp_step)
  case init => exact ⟨0, Nat.zero_le _, rfl, rfl, h0, fun j h => absurd h (Nat.not_lt_zero _)⟩
  case fin =>
    rintro b' s' ⟨i, hi, hd, rfl, hI, he⟩
    have hi' : i = min items.size items2.size := by
      have := congrArg List.length hd
      rw [List.length_nil, List.length_drop, zl] at this
      omega
    subst hi'
    have q := all s' (fun j h1 h2 => he j (by omega)) hI
    exact wpAny_pure q
  case step =>
    rintro ⟨x, y⟩ rest b' s' ⟨i, hi, hd, rfl, hI, he⟩
    have hlt : i < (items.toList.zip items2.toList).length := by
      rcases Nat.lt_or_ge i (items.toList.zip items2.toList).length with h | h
      · exact h
      · rw [List.drop_eq_nil_of_le h] at hd; cases hd
    have h1 : i < items.size := by omega
    have h2 : i < items2.size := by omega
    rw [List.drop_eq_getElem_cons hlt] at hd
    injection hd with hd1 hd2
    rw [List.getElem_zip] at hd1
    injection hd1 with hx hy
    have ex : items[i] = x := by rw [hx]; simp
    have ey : items2[i] = y := by rw [hy]; simp
    have t := turn i h1 h2 s' hI
    rw [ex, ey] at t
    refine wpAny_bind (wpAny_mono t (fun r s2 q => ?_) fun _ _ z => z)
    obtain ⟨rfl, q⟩ := q
    cases he' : e i with
    | true =>
      refine wpAny_pure ⟨i + 1, by omega, hd2, rfl, q, fun j hj => ?_⟩
      rcases Nat.lt_or_eq_of_le (Nat.le_of_lt_succ hj) with h | rfl
      · exact he j h
      · exact he'
    | false =>
      have q' := stop i s2 h1 h2 he' q
      refine wpAny_bind (wpAny_pure (wpAny_pure ?_))
      exact wpAny_pure q'
end Me
set_option maxHeartbeats 8000000
namespace Me
open PySem PySem.Spec PyProof.Rows L2
theorem rc_tupB {prog : Program} {w : World} {A : Around} {E : Value → Shared → Prop} {s : Shared} {l b : Addr} {items items2 : Array Value} {Q : Value → Shared → Prop} (e : Nat → Bool) (I : Nat → Shared → Prop) (hu : A.units < cLine)
    (hl : s.heap.IsTuple l items) (hb : s.heap.IsTuple b items2)
    (turn : ∀ (i : Nat) (h1 : i < items.size) (h2 : i < items2.size) (s : Shared), I i s → wpAny (model prog w) A.in1 (eqBool items[i] items2[i]) (fun r s' => r = e i ∧ I (i + 1) s') E s)
    (stop : ∀ (i : Nat) (s : Shared), i < items.size → i < items2.size → e i = false → I (i + 1) s → Q (.bool false) s)
    (all : ∀ (s : Shared), (∀ i, i < items.size → i < items2.size → e i = true) → I (min items.size items2.size) s → Q (.bool (items.size == items2.size)) s)
    (h0 : I 0 s) : wpAny (model prog w) A (richCompare .Eq (.ref l) (.ref b)) Q E s := by
  obtain ⟨⟨c1, d1, a1, l1⟩, g1, q1, n1, r1⟩ := hl
  obtain ⟨⟨c2, d2, a2, l2⟩, g2, q2, n2, r2⟩ := hb
  dsimp only at q1 r1 q2 r2
  subst q1 r1 q2 r2
  have one : wpAny (model prog w) A (tryCompare (.ref l) (cmpInfo .Eq).2.1 (.ref b)) (fun r s' => ∃ v, r = some v ∧ Q v s') E s := by
    unfold tryCompare
    have hT : s.TypeIs (.ref l) "tuple" := ⟨_, g1, rfl⟩
    have f3 := PySem.F.slot_tuple_eq.bind (.ref l)
    have f2 := PySem.F.slot_tuple_eq.lookup
    have key : wpAny (model prog w) A (call (.builtin "tuple.__eq__") [.ref l, .ref b]) (fun v s' => ∃ c, v = .bool c ∧ Q (.bool c) s') E s := by
      refine GQ.call_here PySem.F.slot_tuple_eq hT PyProof.Rows.entry_tuple_eq (PyProof.Rows.args_tuple_eq _ _) ?_
      exact tuple_eqB (R := wants (fun v s' => ∃ c, v = .bool c ∧ Q (.bool c) s') E) l b items items2 n1 n2 d1 d2 l1 l2 e I turn (fun i s h1 h2 h3 h4 => ⟨_, rfl, stop i s h1 h2 h3 h4⟩) (fun s h1 h2 => ⟨_, rfl, all s h1 h2⟩) g1 g2 h0
    have key2 : wpAny (model prog w) A (call (.builtin "tuple.__eq__") ([.ref l] ++ [.ref b])) (fun v s' => ∃ c, v = .bool c ∧ Q (.bool c) s') E s := key
    simp only [callSpecialIfBound?, bindSpecialIfBound?]
    refine wpAny_bind ?_
    obtain ⟨h, g, d, t, os⟩ := s
    repeat wp_step
    refine wpAny_askSetting ?_
    simp only [PySem.F.slot_tuple_eq.bind]
    have fin : wpAny (model prog w) A (call (.builtin "tuple.__eq__") ([.ref l] ++ [.ref b]) >>= fun v => pure (some v)) (fun a s' => wpAny (model prog w) A (match a with | some .notImplemented => pure none | none => pure none | some v => pure (some v)) (fun r s' => ∃ v, r = some v ∧ Q v s') E s') E ⟨h, g, d, t, os⟩ := wpAny_bind (wpAny_mono key2 (fun v s' hv => by
      obtain ⟨c, rfl, q⟩ := hv
      exact wpAny_pure (wpAny_pure ⟨_, rfl, q⟩)) fun _ _ e => e)
    refine wpAny_ite ?_
    split
    · exact wpAny_bind (wpAny_pure (wpAny_pure fin))
    · exact wpAny_tryCatch (wpAny_bind (wpAny_pure (wpAny_pure fin)))
  unfold richCompare
  simp only [oneThing_ref]
  refine wpAny_holding (wpAny_bind (wpAny_cRoomFor hu ?_))
  obtain ⟨h, g, d, t, os⟩ := s
  refine wpAny_bind ?_
  repeat (first | (refine wpAny_bind (wpAny_mono one (fun r s' z => ?_) fun _ _ e => e)) | wp_step)
  obtain ⟨v, rfl, q⟩ := z
  exact wpAny_pure q

theorem cmp_noneK {prog : Program} {w : World} {A : Around} {E : Value → Shared → Prop} {s : Shared} {h₀ : Heap} {L : Addr} {m : Str → Option Value} {K : PySem.W.Frag} {x C f : Addr} {ox : Obj} {od : Option Obj} {Q : Value → Shared → Prop} (hu : A.units < cLine)
    (F : Fr h₀ L s.heap m) (X₀ : K.In h₀) (I : PySem.W.InstAt s.heap x ox C od) (sn : PySem.W.subIn K (.ref C) (.type "NoneType") = some false) (hs : PySem.W.findIn K (.ref C) "__eq__" = some (some (.ref f))) (hf : PySem.W.isFn K (.ref f) = true)
    (hcall : wpAny (model prog w) A (call (.ref f) [.ref x, .none]) (fun v s' => ∃ c, v = .bool c ∧ Q (.bool c) s') E s) :
    wpAny (model prog w) A (richCompare .Eq .none (.ref x)) Q E s := by
  have X := X₀.keeps F.keep
  have none1 : wpAny (model prog w) A (tryCompare .none (cmpInfo .Eq).2.1 (.ref x)) (fun r s' => r = none ∧ s' = s) E s := by
    unfold tryCompare
    have hT : s.TypeIs .none "NoneType" := rfl
    have f3 := PySem.F.slot_NoneType_eq.bind .none
    have f2 := PySem.F.slot_NoneType_eq.lookup
    have key2 : wpAny (model prog w) A (call (.builtin "NoneType.__eq__") ([.none] ++ [.ref x])) (fun v s' => v = .notImplemented ∧ s' = s) E s := by
      refine GQ.call_here PySem.F.slot_NoneType_eq hT PySem.F.entry_NoneType_eq (PySem.F.args_NoneType_eq_2 _ _) ?_
      unfold Builtin.«NoneType.__eq__»
      repeat wp_step
      exact ⟨rfl, rfl⟩
    simp only [callSpecialIfBound?, bindSpecialIfBound?]
    refine wpAny_bind ?_
    obtain ⟨h, g, d, t, os⟩ := s
    repeat wp_step
    refine wpAny_askSetting ?_
    simp only [PySem.F.slot_NoneType_eq.bind]
    have fin : wpAny (model prog w) A (call (.builtin "NoneType.__eq__") ([.none] ++ [.ref x]) >>= fun v => pure (some v)) (fun a s' => wpAny (model prog w) A (match a with | some .notImplemented => pure none | none => pure none | some v => pure (some v)) (fun r s' => r = none ∧ s' = ⟨h, g, d, t, os⟩) E s') E ⟨h, g, d, t, os⟩ := wpAny_bind (wpAny_mono key2 (fun v s' hv => by
      obtain ⟨rfl, rfl⟩ := hv
      exact wpAny_pure (wpAny_pure ⟨rfl, rfl⟩)) fun _ _ e => e)
    refine wpAny_ite ?_
    split
    · exact wpAny_bind (wpAny_pure (wpAny_pure fin))
    · exact wpAny_tryCatch (wpAny_bind (wpAny_pure (wpAny_pure fin)))
  have two : wpAny (model prog w) A (tryCompare (.ref x) (cmpInfo .Eq).2.2 .none) (fun r s' => ∃ v, r = some v ∧ Q v s') E s := by
    unfold tryCompare
    refine wpAny_bind (m := callSpecialIfBound? (.ref x) (Str.ofString "__eq__") [.none]) (PySem.W.ifBound_K X I hs hf (wpAny_mono hcall (fun r s' hr => by
          obtain ⟨c, rfl, hq⟩ := hr
          exact wpAny_pure ⟨_, rfl, hq⟩) fun _ _ e => e))
  unfold richCompare
  refine wpAny_holding (wpAny_bind (wpAny_cRoomFor hu ?_))
  show wpAny (model prog w) A (_ >>= _) _ _ _
  refine wpAny_bind ?_
  repeat (first | (refine wpAny_bind (I.type.here ?_)) | (refine wpAny_bind ((PySem.W.looks_subIn X sn).here ?_))  | (refine wpAny_bind (wpAny_mono none1 (fun r s' z => ?_) fun _ _ e => e)) | wp_step)
  obtain ⟨rfl, rfl⟩ := z
  show wpAny (model prog w) A (tryCompare (.ref x) (cmpInfo .Eq).2.2 .none >>= _) _ _ _
  refine wpAny_bind (wpAny_mono two (fun r s' z => ?_) fun _ _ e => e)
  obtain ⟨v, rfl, q⟩ := z
  exact wpAny_pure q
theorem none_none {prog : Program} {w : World} {A : Around} {E : Value → Shared → Prop} {s : Shared} {Q : Value → Shared → Prop} (hu : A.units < cLine) (q : Q (.bool true) s) : wpAny (model prog w) A (richCompare .Eq .none .none) Q E s := by
  have one : wpAny (model prog w) A (tryCompare .none (cmpInfo .Eq).2.1 .none) (fun r s' => r = some (.bool true) ∧ s' = s) E s := by
    unfold tryCompare
    have hT : s.TypeIs .none "NoneType" := rfl
    have f3 := PySem.F.slot_NoneType_eq.bind .none
    have f2 := PySem.F.slot_NoneType_eq.lookup
    have key2 : wpAny (model prog w) A (call (.builtin "NoneType.__eq__") ([.none] ++ [.none])) (fun v s' => v = .bool true ∧ s' = s) E s := by
      refine GQ.call_here PySem.F.slot_NoneType_eq hT PySem.F.entry_NoneType_eq (PySem.F.args_NoneType_eq_2 _ _) ?_
      unfold Builtin.«NoneType.__eq__»
      repeat wp_step
      exact ⟨rfl, rfl⟩
    simp only [callSpecialIfBound?, bindSpecialIfBound?]
    refine wpAny_bind ?_
    obtain ⟨h, g, d, t, os⟩ := s
    repeat wp_step
    refine wpAny_askSetting ?_
    simp only [PySem.F.slot_NoneType_eq.bind]
    have fin : wpAny (model prog w) A (call (.builtin "NoneType.__eq__") ([.none] ++ [.none]) >>= fun v => pure (some v)) (fun a s' => wpAny (model prog w) A (match a with | some .notImplemented => pure none | none => pure none | some v => pure (some v)) (fun r s' => r = some (.bool true) ∧ s' = ⟨h, g, d, t, os⟩) E s') E ⟨h, g, d, t, os⟩ := wpAny_bind (wpAny_mono key2 (fun v s' hv => by
      obtain ⟨rfl, rfl⟩ := hv
      exact wpAny_pure (wpAny_pure ⟨rfl, rfl⟩)) fun _ _ e => e)
    refine wpAny_ite ?_
    split
    · exact wpAny_bind (wpAny_pure (wpAny_pure fin))
    · exact wpAny_tryCatch (wpAny_bind (wpAny_pure (wpAny_pure fin)))
  unfold richCompare
  refine wpAny_holding (wpAny_bind (wpAny_cRoomFor hu ?_))
  show wpAny (model prog w) A (_ >>= _) _ _ _
  refine wpAny_bind ?_
  repeat (first | (refine wpAny_bind (wpAny_mono one (fun r s' z => ?_) fun _ _ e => e)) | wp_step)
  obtain ⟨rfl, rfl⟩ := z
  exact wpAny_pure q
end Me
set_option maxHeartbeats 8000000
namespace Me
open PySem PySem.Spec PyProof.Rows L2
/-! ### == by own classes, with either answer -/
abbrev EqvB : Type := V → V → Hp → Prop → Prop
def RcB (X : Cx) (n : Nat) (D : EqvB) : Prop := ∀ (A : Around) (pins : List (Addr × Obj)) (s : Shared) (σ : L2.St) (H : Hp) (x y : V) (u v : Value) (φ : Prop), L2.Sub X n A → L2.Inv X pins σ H s → RelV x u → RelV y v → D x y H φ →
  wpAny (model X.prog X.w) A (richCompare .Eq u v) (fun r s' => ∃ b : Bool, (b = true ↔ φ) ∧ r = .bool b ∧ ∃ H', L2.Inv X pins σ H' s' ∧ Ext H H') X.xe s
def EqB (X : Cx) (n : Nat) (D : EqvB) : Prop := ∀ (A : Around) (pins : List (Addr × Obj)) (s : Shared) (σ : L2.St) (H : Hp) (x y : V) (u v : Value) (φ : Prop), L2.Sub X n A → L2.Inv X pins σ H s → RelV x u → RelV y v → D x y H φ →
  wpAny (model X.prog X.w) A (eqBool u v) (fun r s' => (r = true ↔ φ) ∧ ∃ H', L2.Inv X pins σ H' s' ∧ Ext H H') X.xe s
def rEqB (D : EqvB) : R2 := fun x y H Q => ∃ φ, D x y H φ ∧ ∀ (b : Bool) H', (b = true ↔ φ) → Ext H H' → Q (.bl b) H'
theorem op_eqB {X : Cx} {n : Nat} {D : EqvB} (h : RcB X n D) (hr : Room n X.A) : OpR X (compareOp .Eq) (rEqB D) := by
  intro pins s σ H x y v u Q I rx ry hq
  obtain ⟨φ, d, k⟩ := hq
  show wpAny (model X.prog X.w) X.A (richCompare .Eq v u) (EP X pins σ Q) X.xe s
  refine wpAny_mono (h X.A pins s σ H x y v u φ ⟨hr, rfl⟩ I rx ry d) (fun r s' z => ?_) fun _ _ e => e
  obtain ⟨b, hb, rfl, H', I', e⟩ := z
  exact ⟨.bl b, H', I', rfl, k b H' hb e⟩
def spEqB (R : Addr → V → Hp → Prop → Prop) : Sp := fun vs H Q _ => ∃ p y φ, vs = [.ref p, y] ∧ R p y H φ ∧ ∀ (b : Bool) H', (b = true ↔ φ) → Ext H H' → Q (.bl b) H'
section
variable {X : Cx} {CX : CXT} {n : Nat} {C f : Addr} {fd : FuncData} {ps : List Str} {E : XK}
theorem own_call {sp : Sp} {pins : List (Addr × Obj)} {σ : L2.St} {H : Hp} {s : Shared} {x y : V} {u v : Value} {Q : VK} {A : Around} {R : Value → Shared → Prop} (F : FnOk X.prog X.w X.K X.mg X.base CX n f fd ps sp) (hb : Binds X.K fd ps []) (hx : Passes CX X E) (sb : L2.Sub X n A) (I : L2.Inv X pins σ H s) (rx : RelV x u) (ry : RelV y v)
    (hsp : sp [x, y] H Q E) (k : ∀ z w' H' s', RelV z w' → L2.Inv X pins σ H' s' → Q z H' → R w' s') : wpAny (model X.prog X.w) A (call (.ref f) [u, v]) R X.xe s := by
  have e0 : Env0 X.prog X.w X.K X.mg X.base A X.stack s H := by
    have e := I.env0
    exact ⟨by rw [sb.fr]; exact e.frames, e.mod, e.bs, e.bsz, e.funs, e.frf, e.hok, e.bare⟩
  have hl := F.len _ _ _ _ hsp
  have r2 : L2.Vals [x, y] [u, v] := .cons rx (.cons ry .nil)
  refine wpAny_call (codeAny_mono (F.run A X.stack s H ⟨[u, v], []⟩ [u, v] [x, y] _ E sb.room e0 (by
    have := hb s [u, v] I.kIn (by simpa using hl)
    simpa using this) r2 hsp) fun r s' hq => ?_)
  cases r with
  | error e => exact hx pins σ H s e s' I hq
  | ok fl =>
    cases fl with
    | ret w' =>
      obtain ⟨z, H', I', rz, q⟩ := I.after hq
      exact k z w' H' s' rz I' q
    | next => exact False.elim hq
    | brk => exact False.elim hq
    | cont => exact False.elim hq
/-- x == y with an instance ahead -/
def DIn (K : PySem.W.Frag) (C : Addr) (R : Addr → V → Hp → Prop → Prop) : EqvB := fun x y H φ => ∃ p dx fs, x = .ref p ∧ H p = some (.ins C dx fs) ∧
  ((y = .non ∧ PySem.W.notFirst K C (.type "NoneType") = true) ∨ ∃ q D dy gs, y = .ref q ∧ H q = some (.ins D dy gs) ∧ PySem.W.notFirst K C (.ref D) = true) ∧ R p y H φ
theorem rcB_ins {R : Addr → V → Hp → Prop → Prop} (F : FnOk X.prog X.w X.K X.mg X.base CX n f fd ps (spEqB R)) (eqA : PySem.W.findIn X.K (.ref C) "__eq__" = some (some (.ref f))) (eqF : PySem.W.isFn X.K (.ref f) = true) (hb : Binds X.K fd ps []) (hx : Passes CX X E) : RcB X n (DIn X.K C R) := by
  intro A pins s σ H x y u v φ sb I rx ry d
  obtain ⟨p, dx, fs, rfl, hp, hy, r⟩ := d
  obtain ⟨m, hF⟩ := I.fr
  obtain ⟨mA, J, _⟩ := ins_get I.hok hp
  obtain ⟨od, J, _⟩ := J.look
  cases rx
  have go : ∀ (tb : Value), PySem.W.Looks (model X.prog X.w) s.heap (typeOf v) tb → PySem.W.notFirst X.K C tb = true → wpAny (model X.prog X.w) A (richCompare .Eq (.ref p) v) (fun r s' => ∃ b : Bool, (b = true ↔ φ) ∧ r = .bool b ∧ ∃ H', L2.Inv X pins σ H' s' ∧ Ext H H') X.xe s := by
    intro tb lt nf
    refine PySem.W.cmp_K (op := .Eq) (tb := tb) sb.room.units0 hF I.ok.mod.kin J lt nf eqA eqF ?_
    refine own_call (E := E) (Q := fun z H' => ∃ b : Bool, z = .bl b ∧ (b = true ↔ φ) ∧ Ext H H') F hb hx sb I (show RelV (V.ref p) (Value.ref p) from rfl) ry ⟨p, y, φ, rfl, r, fun b H' h1 h2 => ⟨b, rfl, h1, h2⟩⟩ fun z w' H' s' rz I' q => ?_
    obtain ⟨b, rfl, h1, h2⟩ := q
    cases rz
    exact ⟨b, h1, rfl, H', I', h2⟩
  rcases hy with ⟨rfl, nn⟩ | ⟨q, D, dy, gs, rfl, hq, nf⟩
  · cases ry
    exact go _ (PySem.W.Looks.of_pure rfl) nn
  · obtain ⟨mB, J', _⟩ := ins_get I.hok hq
    obtain ⟨od', J', _⟩ := J'.look
    cases ry
    exact go _ J'.type nf
/-- None == y with an instance behind -/
def DNi (K : PySem.W.Frag) (C : Addr) (R : Addr → V → Hp → Prop → Prop) : EqvB := fun x y H φ => ∃ q dy gs, x = .non ∧ y = .ref q ∧ H q = some (.ins C dy gs) ∧ PySem.W.subIn K (.ref C) (.type "NoneType") = some false ∧ R q .non H φ
theorem rcB_none {R : Addr → V → Hp → Prop → Prop} (F : FnOk X.prog X.w X.K X.mg X.base CX n f fd ps (spEqB R)) (eqA : PySem.W.findIn X.K (.ref C) "__eq__" = some (some (.ref f))) (eqF : PySem.W.isFn X.K (.ref f) = true) (hb : Binds X.K fd ps []) (hx : Passes CX X E) : RcB X n (DNi X.K C R) := by
  intro A pins s σ H x y u v φ sb I rx ry d
  obtain ⟨q, dy, gs, rfl, rfl, hq, sn, r⟩ := d
  obtain ⟨m, hF⟩ := I.fr
  obtain ⟨mA, J, _⟩ := ins_get I.hok hq
  obtain ⟨od, J, _⟩ := J.look
  cases rx
  cases ry
  refine cmp_noneK sb.room.units0 hF I.ok.mod.kin J sn eqA eqF ?_
  refine own_call (E := E) (Q := fun z H' => ∃ b : Bool, z = .bl b ∧ (b = true ↔ φ) ∧ Ext H H') F hb hx sb I (show RelV (V.ref q) (Value.ref q) from rfl) (show RelV V.non Value.none from rfl) ⟨q, .non, φ, rfl, r, fun b H' h1 h2 => ⟨b, rfl, h1, h2⟩⟩ fun z w' H' s' rz I' q => ?_
  obtain ⟨b, rfl, h1, h2⟩ := q
  cases rz
  exact ⟨b, rfl, b, h1, rfl, H', I', h2⟩
theorem rcB_nn : RcB X n (fun x y H φ => x = .non ∧ y = .non ∧ φ) := by
  intro A pins s σ H x y u v φ sb I rx ry d
  obtain ⟨rfl, rfl, hφ⟩ := d
  cases rx
  cases ry
  have q : ∃ b : Bool, (b = true ↔ φ) ∧ (Value.bool true) = .bool b ∧ ∃ H', L2.Inv X pins σ H' s ∧ Ext H H' := ⟨true, ⟨fun _ => hφ, fun _ => rfl⟩, rfl, H, I, Ext.rfl'⟩
  exact none_none sb.room.units0 q
theorem EqB.of {D : EqvB} (h : RcB X n D) (hl : ∀ x y H φ, D x y H φ → ∃ p q, x = .ref p ∧ y = .ref q) (same : ∀ x H φ, D x x H φ → φ) : EqB X n D := by
  intro A pins s σ H x y u v φ sb I rx ry d
  obtain ⟨p, q, rfl, rfl⟩ := hl x y H φ d
  have h' := h A pins s σ H _ _ u v φ sb I rx ry d
  cases rx
  cases ry
  by_cases e : p = q
  · subst e
    have hφ := same _ _ _ d
    have q : ((true = true) ↔ φ) ∧ ∃ H', L2.Inv X pins σ H' s ∧ Ext H H' := ⟨⟨fun _ => hφ, fun _ => rfl⟩, H, I, Ext.rfl'⟩
    unfold eqBool
    refine wpAny_holding ?_
    rw [if_pos (by simp)]
    repeat wp_step
    exact q
  · refine GQ.eqBool_refG e (wpAny_mono h' (fun r s' z => ?_) fun _ _ e => e)
    obtain ⟨b, hb, rfl, r⟩ := z
    exact ⟨b, rfl, hb, r⟩
def DTupB (D : EqvB) : EqvB := fun x y H φ => ∃ (p q : Addr) (xs ys : List V) (e : Nat → Prop), x = .ref p ∧ y = .ref q ∧ H p = some (.tup xs) ∧ H q = some (.tup ys) ∧ (∀ (i : Nat) a b, xs[i]? = some a → ys[i]? = some b → D a b H (e i)) ∧ (φ ↔ xs.length = ys.length ∧ ∀ i, i < xs.length → e i)
theorem vals_at {xs : List V} {us : List Value} (h : L2.Vals xs us) : xs.length = us.length ∧ ∀ (i : Nat) u, us[i]? = some u → ∃ v, xs[i]? = some v ∧ RelV v u := by
  induction h with
  | nil => exact ⟨rfl, fun i u h => by simp at h⟩
  | cons a b ih =>
    refine ⟨by simp [ih.1], fun i u h => ?_⟩
    cases i with
    | zero => simp only [List.getElem?_cons_zero, Option.some.injEq] at h; subst h; exact ⟨_, rfl, a⟩
    | succ i => exact ih.2 i u h
theorem rcB_tup {D : EqvB} (mon : ∀ x y H H' φ, Ext H H' → D x y H φ → D x y H' φ) (h : EqB X n D) : RcB X (n + 1) (DTupB D) := by
  intro A pins s σ H x y u v φ sb I rx ry d
  obtain ⟨p, q, xs, ys, e, rfl, rfl, hp, hq, hd, hφ⟩ := d
  cases rx
  cases ry
  have z1 := I.hok p _ hp
  have z2 := I.hok q _ hq
  unfold L2.ObjOk at z1 z2
  obtain ⟨_, its, v1, t1⟩ := z1
  obtain ⟨_, its2, v2, t2⟩ := z2
  obtain ⟨l1, g1⟩ := vals_at v1
  obtain ⟨l2, g2⟩ := vals_at v2
  have dec : ∀ i, Decidable (e i) := fun i => Classical.propDecidable _
  refine rc_tupB (items := its.toArray) (items2 := its2.toArray) (fun i => @decide (e i) (dec i)) (fun _ s' => ∃ H', L2.Inv X pins σ H' s' ∧ Ext H H') sb.room.units0 t1 t2 (fun i h1 h2 s' hI => ?_) (fun i s' h1 h2 he hI => ?_) (fun s' he hI => ?_) ⟨H, I, Ext.rfl'⟩
  · obtain ⟨H', I', x'⟩ := hI
    obtain ⟨a, ha, ra⟩ := g1 i its.toArray[i] (by simp at h1; simp [h1])
    obtain ⟨b, hb, rb⟩ := g2 i its2.toArray[i] (by simp at h2; simp [h2])
    refine wpAny_mono (h A.in1 pins s' σ H' a b _ _ (e i) sb.in1 I' ra rb (mon _ _ _ _ _ x' (hd i a b ha hb))) (fun r s2 z => ?_) fun _ _ e => e
    obtain ⟨hb, H2, I2, x2⟩ := z
    refine ⟨?_, H2, I2, x'.trans x2⟩
    cases r with
    | true => exact (@decide_eq_true _ (dec i) (hb.mp rfl)).symm
    | false => exact (@decide_eq_false _ (dec i) (fun z => by cases hb.mpr z)).symm
  · obtain ⟨H', I', x'⟩ := hI
    refine ⟨false, ⟨(fun z => by cases z), fun z => ?_⟩, rfl, H', I', x'⟩
    have h3 := (hφ.mp z).2 i (by simp at h1; omega)
    rw [@decide_eq_true _ (dec i) h3] at he
    cases he
  · obtain ⟨H', I', x'⟩ := hI
    refine ⟨_, ⟨fun z => ?_, fun z => ?_⟩, rfl, H', I', x'⟩
    · have hl : its.length = its2.length := by simpa using z
      refine hφ.mpr ⟨by omega, fun i hi => ?_⟩
      exact @of_decide_eq_true _ (dec i) (he i (by simp; omega) (by simp; omega))
    · have := (hφ.mp z).1
      simp only [List.size_toArray, beq_iff_eq]
      omega
end
end Me
set_option maxHeartbeats 8000000
namespace Me
open PySem L2


inductive Flat where
  | num (l h : Int) (w : Option Int)
  | bits (m : Int)
  | call (n : Str)
inductive Smp where
  | flat (f : Flat)
  | items (f : Flat) (w : Option Int)
inductive Inn where
  | non
  | nothing
  | smp (s : Smp)
def optV : Option Int → V
  | none => .non
  | some i => .int i
theorem optV_inj {u v : Option Int} : optV u = optV v ↔ u = v := by
  cases u <;> cases v <;> simp [optV]
theorem optV_scal (u v : Option Int) : scal (optV u) (optV v) = true := by
  cases u <;> cases v <;> rfl
def FlatO (a : Ad) (H : Hp) (v : V) : Flat → Prop
  | .num l h w => ∃ p dx, v = .ref p ∧ H p = some (.ins (a.C 1) dx [("low", .int l), ("high", .int h), ("width", optV w)])
  | .bits m => ∃ p dx, v = .ref p ∧ H p = some (.ins (a.C 2) dx [("many", .int m)])
  | .call n => ∃ p dx, v = .ref p ∧ H p = some (.ins (a.C 3) dx [("name", .str n)])
def SmpO (a : Ad) (H : Hp) (v : V) : Smp → Prop
  | .flat f => FlatO a H v f
  | .items f w => ∃ p dx y, v = .ref p ∧ H p = some (.ins (a.C 4) dx [("item", y), ("width", optV w)]) ∧ FlatO a H y f
def InnO (a : Ad) (H : Hp) (v : V) : Inn → Prop
  | .non => v = .non
  | .nothing => ∃ p dx, v = .ref p ∧ H p = some (.ins (a.C 0) dx [])
  | .smp s => SmpO a H v s
def Inn.ix : Inn → Option Nat
  | .non => none
  | .nothing => some 0
  | .smp (.flat (.num _ _ _)) => some 1
  | .smp (.flat (.bits _)) => some 2
  | .smp (.flat (.call _)) => some 3
  | .smp (.items _ _) => some 4
theorem FlatO.ext {a : Ad} {H H' : Hp} {v : V} {f : Flat} (h : FlatO a H v f) (e : Ext H H') : FlatO a H' v f := by
  cases f <;> (obtain ⟨p, dx, rfl, hp⟩ := h; exact ⟨p, dx, rfl, e _ _ hp⟩)
theorem SmpO.ext {a : Ad} {H H' : Hp} {v : V} {f : Smp} (h : SmpO a H v f) (e : Ext H H') : SmpO a H' v f := by
  cases f with
  | flat f => exact FlatO.ext (f := f) h e
  | items f w => obtain ⟨p, dx, y, rfl, hp, hf⟩ := h; exact ⟨p, dx, y, rfl, e _ _ hp, hf.ext e⟩
theorem InnO.ext {a : Ad} {H H' : Hp} {v : V} {f : Inn} (h : InnO a H v f) (e : Ext H H') : InnO a H' v f := by
  cases f with
  | non => exact h
  | nothing => obtain ⟨p, dx, rfl, hp⟩ := h; exact ⟨p, dx, rfl, e _ _ hp⟩
  | smp f => exact SmpO.ext (f := f) h e
theorem InnO.itm {a : Ad} {H : Hp} {v : V} {t : Inn} (h : InnO a H v t) : Itm a H v t.ix := by
  match v, t, h with
  | _, .non, h => cases h; exact .th .non
  | _, .nothing, ⟨p, dx, rfl, hp⟩ => exact .ins (by decide) hp
  | _, .smp (.flat (.num _ _ _)), ⟨p, dx, rfl, hp⟩ => exact .ins (by decide) hp
  | _, .smp (.flat (.bits _)), ⟨p, dx, rfl, hp⟩ => exact .ins (by decide) hp
  | _, .smp (.flat (.call _)), ⟨p, dx, rfl, hp⟩ => exact .ins (by decide) hp
  | _, .smp (.items _ _), ⟨p, dx, y, rfl, hp, _⟩ => exact .ins (by decide) hp
/-- the object says what it is -/
theorem InnO.non_or {a : Ad} {H : Hp} {v : V} {t : Inn} (h : InnO a H v t) : (v = .non ∧ t = .non) ∨ ∃ q dy gs i, v = .ref q ∧ i < 11 ∧ H q = some (.ins (a.C i) dy gs) ∧ t.ix = some i := by
  match v, t, h with
  | _, .non, h => exact .inl ⟨h, rfl⟩
  | _, .nothing, ⟨p, dx, rfl, hp⟩ => exact .inr ⟨p, dx, _, 0, rfl, by decide, hp, rfl⟩
  | _, .smp (.flat (.num _ _ _)), ⟨p, dx, rfl, hp⟩ => exact .inr ⟨p, dx, _, 1, rfl, by decide, hp, rfl⟩
  | _, .smp (.flat (.bits _)), ⟨p, dx, rfl, hp⟩ => exact .inr ⟨p, dx, _, 2, rfl, by decide, hp, rfl⟩
  | _, .smp (.flat (.call _)), ⟨p, dx, rfl, hp⟩ => exact .inr ⟨p, dx, _, 3, rfl, by decide, hp, rfl⟩
  | _, .smp (.items _ _), ⟨p, dx, y, rfl, hp, _⟩ => exact .inr ⟨p, dx, _, 4, rfl, by decide, hp, rfl⟩
theorem i_fqq {K : PySem.W.Frag} {f : Str} {C D p q dx dy : Addr} {fs gs : List (Str × V)} {v u : V} {σ : L2.St} {H : Hp} {Q : VK} (h0 : σ[0]? = some (some (.ref p))) (h1 : σ[1]? = some (some (.ref q))) (hp : H p = some (.ins C dx fs)) (hq : H q = some (.ins D dy gs))
    (cl : Cls K C) (no : NoAttr K C f) (cl' : Cls K D) (no' : NoAttr K D f) (l1 : fs.lookup f = some v) (l2 : gs.lookup f = some u) (e : scal v u = true) (k : Q (.bl (decide (v = u))) H) : tOp rEq (tFld K (tVar 0) f) (tFld K (tVar 1) f) σ H Q :=
  ⟨_, h0, p, C, dx, fs, v, rfl, hp, cl, no, l1, _, h1, q, D, dy, gs, u, rfl, hq, cl', no', l2, e, k⟩
def REq (a : Ad) (i : Nat) : Addr → V → Hp → Prop → Prop := fun p y H φ => ∃ t t', t.ix = some i ∧ InnO a H (.ref p) t ∧ InnO a H y t' ∧ (φ ↔ t = t')
theorem no_b {φ : Prop} (h : ¬ φ) : (false = true) ↔ φ := ⟨(fun z => by cases z), fun z => absurd z h⟩
theorem yes_b {φ : Prop} (h : φ) : (true = true) ↔ φ := ⟨fun _ => h, fun _ => rfl⟩
theorem dec_b {φ ψ : Prop} [Decidable ψ] (h : ψ ↔ φ) : (decide ψ = true) ↔ φ := ⟨fun z => h.mp (of_decide_eq_true z), fun z => decide_eq_true (h.mpr z)⟩
section
variable {P : Program} {w : World} {K : PySem.W.Frag} {mg : Str → Option Value} {base : Heap} {a : Ad}
theorem ok_eqB0 (T : Txt K mg a) : FnOk P w K mg base CX0 1 (a.E 0).f (a.E 0).fd ["self", "other"] (spEqB (REq a 0)) := by
  have sc : FnScope ["self", "other"] ["self", "other"] (defScope (inClass (top 10) 0)) := ⟨rfl, rfl, rfl, by decide +kernel, rfl, by decide +kernel, by decide +kernel⟩
  refine ok0 T.E0 sc (fun vs H Q E h => ?_) (fun cdv A outer s H vs Q E hr h => ?_)
  · obtain ⟨p, q, φ, rfl, _⟩ := h
    rfl
  · obtain ⟨p, y, φ, rfl, ⟨t, t', ht, hp, hy, hφ⟩, k⟩ := h
    refine ⟨_, (pss_one (ps_ret (pe_callB call_isi (by rfl) T.isinstance (by decide +kernel) (pa_cons (pv 1) (pa_cons (pe_glob (v := .ref (a.C 0)) rfl (T.kc 0 (by decide)).gl rfl) pa_nil))))), ?_⟩
    walk_at "go"
    refine i_isC T (by decide) hy.itm (k _ _ (dec_b ?_) Ext.rfl')
    refine Iff.trans ?_ hφ.symm
    match t, ht with
    | .nothing, _ =>
      match t' with
      | .non => exact ⟨(fun h => by cases h), fun h => by cases h⟩
      | .nothing => exact ⟨fun _ => rfl, fun _ => rfl⟩
      | .smp (.flat (.num _ _ _)) => exact ⟨(fun h => by cases h), fun h => by cases h⟩
      | .smp (.flat (.bits _)) => exact ⟨(fun h => by cases h), fun h => by cases h⟩
      | .smp (.flat (.call _)) => exact ⟨(fun h => by cases h), fun h => by cases h⟩
      | .smp (.items _ _) => exact ⟨(fun h => by cases h), fun h => by cases h⟩
theorem ok_eqB1 (T : Txt K mg a) : FnOk P w K mg base CX0 1 (a.E 1).f (a.E 1).fd ["self", "other"] (spEqB (REq a 1)) := by
  have sc : FnScope ["self", "other"] ["self", "other"] (defScope (inClass (top 11) 1)) := ⟨rfl, rfl, rfl, by decide +kernel, rfl, by decide +kernel, by decide +kernel⟩
  refine ok0 T.E1 sc (fun vs H Q E h => ?_) (fun cdv A outer s H vs Q E hr h => ?_)
  · obtain ⟨p, q, φ, rfl, _⟩ := h
    rfl
  · obtain ⟨p, y, φ, rfl, ⟨t, t', ht, hp, hy, hφ⟩, k⟩ := h
    have kc := T.kc 1 (by decide)
    refine ⟨_, (pss_one (ps_ret (pe_and (pe_callB call_isi (by rfl) T.isinstance (by decide +kernel) (pa_cons (pv 1) (pa_cons (pe_glob (v := .ref (a.C 1)) rfl (T.kc 1 (by decide)).gl rfl) pa_nil))) (pe_and (pe_cmpR op_eq (pe_fld (pv 0) rfl) (pe_fld (pv 1) rfl) (nomark _)) (pe_and (pe_cmpR op_eq (pe_fld (pv 0) rfl) (pe_fld (pv 1) rfl) (nomark _)) (pe_one (pe_cmpR op_eq (pe_fld (pv 0) rfl) (pe_fld (pv 1) rfl) (nomark _)))))))), ?_⟩
    walk_at "go"
    refine i_isC T (by decide) hy.itm ?_
    match t, ht, hp with
    | .smp (.flat (.num l h wv)), _, ⟨_, dx, e, hp⟩ =>
      cases e
      by_cases e1 : t'.ix = some 1
      · match t', e1, hy with
        | .smp (.flat (.num l' h' wv')), _, ⟨q, dy, e, hq⟩ =>
          cases e
          have hφ' : φ ↔ (l = l' ∧ h = h' ∧ wv = wv') := hφ.trans ⟨(fun z => by cases z; exact ⟨rfl, rfl, rfl⟩), fun ⟨a, b, c⟩ => by rw [a, b, c]⟩
          refine ⟨_, rfl, i_yes (decide_eq_true rfl) ?_⟩
          refine i_andV (i_fqq rfl rfl hp hq kc.cl (kc.no _ (by decide)) kc.cl (kc.no _ (by decide)) rfl rfl rfl ⟨_, rfl, i_itd (fun e1 => ?_) (fun e1 => ?_)⟩)
          · refine i_andV (i_fqq rfl rfl hp hq kc.cl (kc.no _ (by decide)) kc.cl (kc.no _ (by decide)) rfl rfl rfl ⟨_, rfl, i_itd (fun e2 => ?_) (fun e2 => ?_)⟩)
            · exact i_fqq rfl rfl hp hq kc.cl (kc.no _ (by decide)) kc.cl (kc.no _ (by decide)) rfl rfl (optV_scal _ _) (k _ _ (dec_b (Iff.trans ⟨fun z => ⟨(V.int.inj e1), (V.int.inj e2), optV_inj.mp z⟩, fun z => optV_inj.mpr z.2.2⟩ hφ'.symm)) Ext.rfl')
            · exact k _ _ (no_b fun z => e2 (by rw [(hφ'.mp z).2.1])) Ext.rfl'
          · exact k _ _ (no_b fun z => e1 (by rw [(hφ'.mp z).1])) Ext.rfl'
      · exact ⟨_, rfl, i_no (decide_eq_false e1) (k _ _ (no_b fun z => e1 (by rw [← hφ.mp z]; rfl)) Ext.rfl')⟩
theorem ok_eqB2 (T : Txt K mg a) : FnOk P w K mg base CX0 1 (a.E 2).f (a.E 2).fd ["self", "other"] (spEqB (REq a 2)) := by
  have sc : FnScope ["self", "other"] ["self", "other"] (defScope (inClass (top 12) 1)) := ⟨rfl, rfl, rfl, by decide +kernel, rfl, by decide +kernel, by decide +kernel⟩
  refine ok0 T.E2 sc (fun vs H Q E h => ?_) (fun cdv A outer s H vs Q E hr h => ?_)
  · obtain ⟨p, q, φ, rfl, _⟩ := h
    rfl
  · obtain ⟨p, y, φ, rfl, ⟨t, t', ht, hp, hy, hφ⟩, k⟩ := h
    have kc := T.kc 2 (by decide)
    refine ⟨_, (pss_one (ps_ret (pe_and (pe_callB call_isi (by rfl) T.isinstance (by decide +kernel) (pa_cons (pv 1) (pa_cons (pe_glob (v := .ref (a.C 2)) rfl (T.kc 2 (by decide)).gl rfl) pa_nil))) (pe_one (pe_cmpR op_eq (pe_fld (pv 0) rfl) (pe_fld (pv 1) rfl) (nomark _)))))), ?_⟩
    walk_at "go"
    refine i_isC T (by decide) hy.itm ?_
    match t, ht, hp with
    | .smp (.flat (.bits m)), _, ⟨_, dx, e, hp⟩ =>
      cases e
      by_cases e1 : t'.ix = some 2
      · match t', e1, hy with
        | .smp (.flat (.bits m')), _, ⟨q, dy, e, hq⟩ =>
          cases e
          refine ⟨_, rfl, i_yes (decide_eq_true rfl) ?_⟩
          exact i_fqq rfl rfl hp hq kc.cl (kc.no _ (by decide)) kc.cl (kc.no _ (by decide)) rfl rfl rfl (k _ _ (dec_b (Iff.trans ⟨(fun z => by rw [V.int.inj z]), fun z => by cases z; rfl⟩ hφ.symm)) Ext.rfl')
      · exact ⟨_, rfl, i_no (decide_eq_false e1) (k _ _ (no_b fun z => e1 (by rw [← hφ.mp z]; rfl)) Ext.rfl')⟩
theorem ok_eqB3 (T : Txt K mg a) : FnOk P w K mg base CX0 1 (a.E 3).f (a.E 3).fd ["self", "other"] (spEqB (REq a 3)) := by
  have sc : FnScope ["self", "other"] ["self", "other"] (defScope (inClass (top 13) 1)) := ⟨rfl, rfl, rfl, by decide +kernel, rfl, by decide +kernel, by decide +kernel⟩
  refine ok0 T.E3 sc (fun vs H Q E h => ?_) (fun cdv A outer s H vs Q E hr h => ?_)
  · obtain ⟨p, q, φ, rfl, _⟩ := h
    rfl
  · obtain ⟨p, y, φ, rfl, ⟨t, t', ht, hp, hy, hφ⟩, k⟩ := h
    have kc := T.kc 3 (by decide)
    refine ⟨_, (pss_one (ps_ret (pe_and (pe_callB call_isi (by rfl) T.isinstance (by decide +kernel) (pa_cons (pv 1) (pa_cons (pe_glob (v := .ref (a.C 3)) rfl (T.kc 3 (by decide)).gl rfl) pa_nil))) (pe_one (pe_cmpR op_eq (pe_fld (pv 0) rfl) (pe_fld (pv 1) rfl) (nomark _)))))), ?_⟩
    walk_at "go"
    refine i_isC T (by decide) hy.itm ?_
    match t, ht, hp with
    | .smp (.flat (.call m)), _, ⟨_, dx, e, hp⟩ =>
      cases e
      by_cases e1 : t'.ix = some 3
      · match t', e1, hy with
        | .smp (.flat (.call m')), _, ⟨q, dy, e, hq⟩ =>
          cases e
          refine ⟨_, rfl, i_yes (decide_eq_true rfl) ?_⟩
          exact i_fqq rfl rfl hp hq kc.cl (kc.no _ (by decide)) kc.cl (kc.no _ (by decide)) rfl rfl rfl (k _ _ (dec_b (Iff.trans ⟨(fun z => by rw [V.str.inj z]), fun z => by cases z; rfl⟩ hφ.symm)) Ext.rfl')
      · exact ⟨_, rfl, i_no (decide_eq_false e1) (k _ _ (no_b fun z => e1 (by rw [← hφ.mp z]; rfl)) Ext.rfl')⟩
end
theorem RcB.mono {X : Cx} {n m : Nat} {D : EqvB} (h : RcB X n D) (l : n ≤ m) : RcB X m D := fun A pins s σ H x y u v φ sb I rx ry d => h A pins s σ H x y u v φ (sb.mono l) I rx ry d
/-- flat things -/
def DFl (a : Ad) : EqvB := fun x y H φ => ∃ f f', FlatO a H x f ∧ FlatO a H y f' ∧ (φ ↔ f = f')
section
variable {mg : Str → Option Value} {a : Ad}
theorem din {X : Cx} (T : Txt X.K X.mg a) {i : Nat} (hi : i < 11) {x y : V} {H : Hp} {φ : Prop} {t t' : Inn} (ht : t.ix = some i) (hx : InnO a H x t) (hy : InnO a H y t') (hφ : φ ↔ t = t') : DIn X.K (a.C i) (REq a i) x y H φ := by
  rcases hx.non_or with ⟨_, rfl⟩ | ⟨p, dx, fs, j, rfl, hj, hp, e⟩
  · cases ht
  · rw [ht] at e; cases e
    refine ⟨p, dx, fs, rfl, hp, ?_, t, t', ht, hx, hy, hφ⟩
    rcases hy.non_or with ⟨rfl, _⟩ | ⟨q, dy, gs, j, rfl, hj, hq, _⟩
    · exact .inl ⟨rfl, (T.kc i hi).nn⟩
    · exact .inr ⟨q, _, dy, gs, rfl, hq, (T.kc i hi).nf j hj⟩
theorem rcB_flat {X : Cx} (T : Txt X.K X.mg a) : RcB X 1 (DFl a) := by
  intro A pins s σ H x y u v φ sb I rx ry d
  obtain ⟨f, f', hx, hy, hφ⟩ := d
  have hφ' : φ ↔ Inn.smp (.flat f) = Inn.smp (.flat f') := hφ.trans ⟨fun z => by rw [z], fun z => by cases z; rfl⟩
  have hx' : InnO a H x (.smp (.flat f)) := hx
  have hy' : InnO a H y (.smp (.flat f')) := hy
  cases f with
  | num l h w => exact rcB_ins (ok_eqB1 T) (T.kc 1 (by decide)).eqA (T.kc 1 (by decide)).eqF T.Eb1 pass0 A pins s σ H x y u v φ sb I rx ry (din T (by decide) rfl hx' hy' hφ')
  | bits m => exact rcB_ins (ok_eqB2 T) (T.kc 2 (by decide)).eqA (T.kc 2 (by decide)).eqF T.Eb2 pass0 A pins s σ H x y u v φ sb I rx ry (din T (by decide) rfl hx' hy' hφ')
  | call m => exact rcB_ins (ok_eqB3 T) (T.kc 3 (by decide)).eqA (T.kc 3 (by decide)).eqF T.Eb3 pass0 A pins s σ H x y u v φ sb I rx ry (din T (by decide) rfl hx' hy' hφ')
end
section
variable {P : Program} {w : World} {K : PySem.W.Frag} {mg : Str → Option Value} {base : Heap} {a : Ad}
theorem ok_eqB4 (T : Txt K mg a) : FnOk P w K mg base CX0 2 (a.E 4).f (a.E 4).fd ["self", "other"] (spEqB (REq a 4)) := by
  have sc : FnScope ["self", "other"] ["self", "other"] (defScope (inClass (top 14) 1)) := ⟨rfl, rfl, rfl, by decide +kernel, rfl, by decide +kernel, by decide +kernel⟩
  refine ok0 T.E4 sc (fun vs H Q E h => ?_) (fun cdv A outer s H vs Q E hr h => ?_)
  · obtain ⟨p, q, φ, rfl, _⟩ := h
    rfl
  · obtain ⟨p, y, φ, rfl, ⟨t, t', ht, hp, hy, hφ⟩, k⟩ := h
    have kc := T.kc 4 (by decide)
    refine ⟨_, (pss_one (ps_ret (pe_and (pe_callB call_isi (by rfl) T.isinstance (by decide +kernel) (pa_cons (pv 1) (pa_cons (pe_glob (v := .ref (a.C 4)) rfl (T.kc 4 (by decide)).gl rfl) pa_nil))) (pe_and (pe_cmpR (op_eqB (rcB_flat T) (hr.mono (by decide))) (pe_fld (pv 0) rfl) (pe_fld (pv 1) rfl) (nomark _)) (pe_one (pe_cmpR op_eq (pe_fld (pv 0) rfl) (pe_fld (pv 1) rfl) (nomark _))))))), ?_⟩
    walk_at "go"
    refine i_isC T (by decide) hy.itm ?_
    match t, ht, hp with
    | .smp (.items f wv), _, ⟨_, dx, x1, e, hp, hf⟩ =>
      cases e
      by_cases e1 : t'.ix = some 4
      · match t', e1, hy with
        | .smp (.items f' wv'), _, ⟨q, dy, y1, e, hq, hf'⟩ =>
          cases e
          have hφ' : φ ↔ (f = f' ∧ wv = wv') := hφ.trans ⟨(fun z => by cases z; exact ⟨rfl, rfl⟩), fun ⟨a, b⟩ => by rw [a, b]⟩
          refine ⟨_, rfl, i_yes (decide_eq_true rfl) ?_⟩
          refine i_andV ⟨_, rfl, p, _, _, _, x1, rfl, hp, kc.cl, kc.no _ (by decide), rfl, _, rfl, q, _, _, _, y1, rfl, hq, kc.cl, kc.no _ (by decide), rfl, (f = f'), ⟨f, f', hf, hf', Iff.rfl⟩, fun b H1 hb x1 => ⟨_, rfl, ?_⟩⟩
          cases b with
          | true => exact i_yes rfl (i_fqq rfl rfl (x1 _ _ hp) (x1 _ _ hq) kc.cl (kc.no _ (by decide)) kc.cl (kc.no _ (by decide)) rfl rfl (optV_scal _ _) (k _ _ (dec_b (Iff.trans ⟨fun z => ⟨hb.mp rfl, optV_inj.mp z⟩, fun z => optV_inj.mpr z.2⟩ hφ'.symm)) x1))
          | false => exact i_no rfl (k _ _ (no_b fun z => by cases hb.mpr (hφ'.mp z).1) x1)
      · exact ⟨_, rfl, i_no (decide_eq_false e1) (k _ _ (no_b fun z => e1 (by rw [← hφ.mp z]; rfl)) Ext.rfl')⟩
end
/-- what stands in a way or a part -/
def DInn (a : Ad) : EqvB := fun x y H φ => ∃ t t', InnO a H x t ∧ InnO a H y t' ∧ (φ ↔ t = t')
section
variable {a : Ad}
theorem rcB_i {X : Cx} (T : Txt X.K X.mg a) {i : Nat} (hi : i < 11) (hl : RcB X 2 (DIn X.K (a.C i) (REq a i))) (hn : RcB X 2 (DNi X.K (a.C i) (REq a i))) : RcB X 2 (fun x y H φ => ∃ t t', (t.ix = some i ∨ (t = .non ∧ t'.ix = some i)) ∧ InnO a H x t ∧ InnO a H y t' ∧ (φ ↔ t = t')) := by
  intro A pins s σ H x y u v φ sb I rx ry d
  obtain ⟨t, t', ht, hx, hy, hφ⟩ := d
  rcases ht with ht | ⟨rfl, ht⟩
  · exact hl A pins s σ H x y u v φ sb I rx ry (din T hi ht hx hy hφ)
  · refine hn A pins s σ H x y u v φ sb I rx ry ?_
    rcases hy.non_or with ⟨_, rfl⟩ | ⟨q, dy, gs, j, rfl, hj, hq, e⟩
    · cases ht
    · rw [ht] at e; cases e
      exact ⟨q, dy, gs, hx, rfl, hq, (T.kc i hi).sn, t', .non, ht, hy, rfl, hφ.trans ⟨fun z => z.symm, fun z => z.symm⟩⟩
theorem rcB_inn {X : Cx} (T : Txt X.K X.mg a) : RcB X 2 (DInn a) := by
  intro A pins s σ H x y u v φ sb I rx ry d
  obtain ⟨t, t', hx, hy, hφ⟩ := d
  have c0 := rcB_i T (i := 0) (by decide) ((rcB_ins (ok_eqB0 T) (T.kc 0 (by decide)).eqA (T.kc 0 (by decide)).eqF T.Eb0 pass0).mono (by decide)) ((rcB_none (ok_eqB0 T) (T.kc 0 (by decide)).eqA (T.kc 0 (by decide)).eqF T.Eb0 pass0).mono (by decide)) A pins s σ H x y u v φ sb I rx ry
  have c1 := rcB_i T (i := 1) (by decide) ((rcB_ins (ok_eqB1 T) (T.kc 1 (by decide)).eqA (T.kc 1 (by decide)).eqF T.Eb1 pass0).mono (by decide)) ((rcB_none (ok_eqB1 T) (T.kc 1 (by decide)).eqA (T.kc 1 (by decide)).eqF T.Eb1 pass0).mono (by decide)) A pins s σ H x y u v φ sb I rx ry
  have c2 := rcB_i T (i := 2) (by decide) ((rcB_ins (ok_eqB2 T) (T.kc 2 (by decide)).eqA (T.kc 2 (by decide)).eqF T.Eb2 pass0).mono (by decide)) ((rcB_none (ok_eqB2 T) (T.kc 2 (by decide)).eqA (T.kc 2 (by decide)).eqF T.Eb2 pass0).mono (by decide)) A pins s σ H x y u v φ sb I rx ry
  have c3 := rcB_i T (i := 3) (by decide) ((rcB_ins (ok_eqB3 T) (T.kc 3 (by decide)).eqA (T.kc 3 (by decide)).eqF T.Eb3 pass0).mono (by decide)) ((rcB_none (ok_eqB3 T) (T.kc 3 (by decide)).eqA (T.kc 3 (by decide)).eqF T.Eb3 pass0).mono (by decide)) A pins s σ H x y u v φ sb I rx ry
  have c4 := rcB_i T (i := 4) (by decide) (rcB_ins (ok_eqB4 T) (T.kc 4 (by decide)).eqA (T.kc 4 (by decide)).eqF T.Eb4 pass0) (rcB_none (ok_eqB4 T) (T.kc 4 (by decide)).eqA (T.kc 4 (by decide)).eqF T.Eb4 pass0) A pins s σ H x y u v φ sb I rx ry
  match t, hx, hφ with
  | .nothing, hx, hφ => exact c0 ⟨_, t', .inl rfl, hx, hy, hφ⟩
  | .smp (.flat (.num _ _ _)), hx, hφ => exact c1 ⟨_, t', .inl rfl, hx, hy, hφ⟩
  | .smp (.flat (.bits _)), hx, hφ => exact c2 ⟨_, t', .inl rfl, hx, hy, hφ⟩
  | .smp (.flat (.call _)), hx, hφ => exact c3 ⟨_, t', .inl rfl, hx, hy, hφ⟩
  | .smp (.items _ _), hx, hφ => exact c4 ⟨_, t', .inl rfl, hx, hy, hφ⟩
  | .non, hx, hφ =>
    match t', hy, hφ with
    | .non, hy, hφ => exact rcB_nn A pins s σ H x y u v φ sb I rx ry ⟨hx, hy, hφ.mpr rfl⟩
    | .nothing, hy, hφ => exact c0 ⟨.non, _, .inr ⟨rfl, rfl⟩, hx, hy, hφ⟩
    | .smp (.flat (.num _ _ _)), hy, hφ => exact c1 ⟨.non, _, .inr ⟨rfl, rfl⟩, hx, hy, hφ⟩
    | .smp (.flat (.bits _)), hy, hφ => exact c2 ⟨.non, _, .inr ⟨rfl, rfl⟩, hx, hy, hφ⟩
    | .smp (.flat (.call _)), hy, hφ => exact c3 ⟨.non, _, .inr ⟨rfl, rfl⟩, hx, hy, hφ⟩
    | .smp (.items _ _), hy, hφ => exact c4 ⟨.non, _, .inr ⟨rfl, rfl⟩, hx, hy, hφ⟩
end
end Me
set_option maxHeartbeats 8000000
namespace Me
open PySem L2


structure WayT where
  w : Str
  n : Str
  d : Bool
  k : Inn
structure PrtT where
  w : Str
  n : Str
  k : Inn
inductive Trm where
  | smp (s : Smp)
  | choice (ws : List WayT)
  | row (ps : List PrtT)
def WayO (a : Ad) (H : Hp) (v : V) (t : WayT) : Prop := ∃ p dx y, v = .ref p ∧ H p = some (.ins (a.C (if t.d = true then 6 else 5)) dx [("word", .str t.w), ("name", .str t.n), ("kind", y)]) ∧ InnO a H y t.k
def PrtO (a : Ad) (H : Hp) (v : V) (t : PrtT) : Prop := (t.w = "" ∧ ∃ p dx y, v = .ref p ∧ H p = some (.ins (a.C 7) dx [("name", .str t.n), ("kind", y)]) ∧ InnO a H y t.k) ∨
  (t.w ≠ "" ∧ ∃ p dx y, v = .ref p ∧ H p = some (.ins (a.C 8) dx [("word", .str t.w), ("name", .str t.n), ("kind", y)]) ∧ InnO a H y t.k)
def AllO {α : Type} (R : Hp → V → α → Prop) (H : Hp) (xs : List V) (ts : List α) : Prop := xs.length = ts.length ∧ ∀ (i : Nat) x, xs[i]? = some x → ∃ t, ts[i]? = some t ∧ R H x t
def TrmO (a : Ad) (H : Hp) (v : V) : Trm → Prop
  | .smp s => SmpO a H v s
  | .choice ws => ∃ p dx q xs, v = .ref p ∧ H p = some (.ins (a.C 9) dx [("ways", .ref q)]) ∧ H q = some (.tup xs) ∧ AllO (WayO a) H xs ws
  | .row ps => ∃ p dx q xs, v = .ref p ∧ H p = some (.ins (a.C 10) dx [("parts", .ref q)]) ∧ H q = some (.tup xs) ∧ AllO (PrtO a) H xs ps
def Trm.ix : Trm → Option Nat
  | .smp s => (Inn.smp s).ix
  | .choice _ => some 9
  | .row _ => some 10
theorem WayO.ext {a : Ad} {H H' : Hp} {v : V} {t : WayT} (h : WayO a H v t) (e : Ext H H') : WayO a H' v t := by
  obtain ⟨p, dx, y, rfl, hp, hy⟩ := h
  exact ⟨p, dx, y, rfl, e _ _ hp, hy.ext e⟩
theorem PrtO.ext {a : Ad} {H H' : Hp} {v : V} {t : PrtT} (h : PrtO a H v t) (e : Ext H H') : PrtO a H' v t := by
  rcases h with ⟨z, p, dx, y, rfl, hp, hy⟩ | ⟨z, p, dx, y, rfl, hp, hy⟩
  · exact .inl ⟨z, p, dx, y, rfl, e _ _ hp, hy.ext e⟩
  · exact .inr ⟨z, p, dx, y, rfl, e _ _ hp, hy.ext e⟩
theorem AllO.ext {α : Type} {R : Hp → V → α → Prop} {H H' : Hp} {xs : List V} {ts : List α} (h : AllO R H xs ts) (e : ∀ x t, R H x t → R H' x t) : AllO R H' xs ts := ⟨h.1, fun i x hx => by
  obtain ⟨t, ht, r⟩ := h.2 i x hx
  exact ⟨t, ht, e _ _ r⟩⟩
theorem TrmO.ext {a : Ad} {H H' : Hp} {v : V} {t : Trm} (h : TrmO a H v t) (e : Ext H H') : TrmO a H' v t := by
  match v, t, h with
  | _, .smp s, h => exact SmpO.ext (f := s) h e
  | _, .choice ws, ⟨p, dx, q, xs, rfl, hp, hq, h⟩ => exact ⟨p, dx, q, xs, rfl, e _ _ hp, e _ _ hq, h.ext fun x t r => r.ext e⟩
  | _, .row ws, ⟨p, dx, q, xs, rfl, hp, hq, h⟩ => exact ⟨p, dx, q, xs, rfl, e _ _ hp, e _ _ hq, h.ext fun x t r => r.ext e⟩
/-! one object has one description -/
theorem FlatO.det {a : Ad} {H : Hp} {v : V} {f g : Flat} (hC : ∀ i j, i < 11 → j < 11 → a.C i = a.C j → i = j) (h : FlatO a H v f) (h' : FlatO a H v g) : f = g := by
  cases f <;> cases g <;> (
    obtain ⟨p, dx, rfl, hp⟩ := h
    obtain ⟨q, dy, e, hq⟩ := h'
    cases e
    rw [hp] at hq
    injection hq with hq
    injection hq with c1 c2 c3
    have c4 := hC _ _ (by decide) (by decide) c1
    first
      | (cases c4; done)
      | (simp only [List.cons.injEq, Prod.mk.injEq, V.int.injEq, V.str.injEq, true_and, and_true, optV_inj] at c3; first | rw [c3] | (obtain ⟨rfl, rfl, rfl⟩ := c3; rfl)))
theorem InnO.det {a : Ad} {H : Hp} {v : V} {f g : Inn} (hC : ∀ i j, i < 11 → j < 11 → a.C i = a.C j → i = j) (h : InnO a H v f) (h' : InnO a H v g) : f = g := by
  have key : f.ix = g.ix := by
    rcases h.non_or with ⟨rfl, rfl⟩ | ⟨q, dy, gs, i, rfl, hi, hq, e⟩
    · rcases h'.non_or with ⟨_, rfl⟩ | ⟨q, dy, gs, i, e, _⟩
      · rfl
      · cases e
    · rcases h'.non_or with ⟨z, _⟩ | ⟨q', dy', gs', i', e2, hi', hq', e'⟩
      · cases z
      · cases e2
        rw [hq] at hq'
        injection hq' with z
        injection z with c1
        rw [e, e', hC _ _ hi hi' c1]
  cases f with
  | non =>
    cases g with
    | non => rfl
    | nothing => cases key
    | smp s => cases s with
      | flat f => cases f <;> cases key
      | items f w => cases key
  | nothing =>
    cases g with
    | non => cases key
    | nothing => rfl
    | smp s => cases s with
      | flat f => cases f <;> cases key
      | items f w => cases key
  | smp s =>
    cases s with
    | flat f =>
      cases g with
      | non => cases f <;> cases key
      | nothing => cases f <;> cases key
      | smp s => cases s with
        | flat g => rw [FlatO.det hC (f := f) (g := g) h h']
        | items g w => cases f <;> cases key
    | items f w =>
      cases g with
      | non => cases key
      | nothing => cases key
      | smp s => cases s with
        | flat g => cases g <;> cases key
        | items g w' =>
          obtain ⟨p, dx, y, e1, hp, hf⟩ := h
          obtain ⟨p', dx', y', e2, hp', hf'⟩ := h'
          subst e1
          cases e2
          rw [hp] at hp'
          injection hp' with z
          injection z with c1 c2 c3
          simp only [List.cons.injEq, Prod.mk.injEq, true_and, and_true, optV_inj] at c3
          obtain ⟨rfl, rfl⟩ := c3
          rw [hf.det hC hf']
theorem WayO.det {a : Ad} {H : Hp} {v : V} {f g : WayT} (hC : ∀ i j, i < 11 → j < 11 → a.C i = a.C j → i = j) (h : WayO a H v f) (h' : WayO a H v g) : f = g := by
  obtain ⟨w1, n1, d1, k1⟩ := f
  obtain ⟨w2, n2, d2, k2⟩ := g
  obtain ⟨p, dx, y, rfl, hp, hy⟩ := h
  obtain ⟨q, dy, y', e, hq, hy'⟩ := h'
  cases e
  rw [hp] at hq
  injection hq with hq
  injection hq with c1 c2 c3
  have c4 := hC _ _ (by split <;> decide) (by split <;> decide) c1
  have c5 : d1 = d2 := by cases d1 <;> cases d2 <;> first | rfl | cases c4
  simp only [List.cons.injEq, Prod.mk.injEq, V.str.injEq, true_and, and_true] at c3
  obtain ⟨rfl, rfl, rfl⟩ := c3
  have c6 : k1 = k2 := InnO.det hC hy hy'
  rw [c5, c6]
theorem PrtO.det {a : Ad} {H : Hp} {v : V} {f g : PrtT} (hC : ∀ i j, i < 11 → j < 11 → a.C i = a.C j → i = j) (h : PrtO a H v f) (h' : PrtO a H v g) : f = g := by
  obtain ⟨w1, n1, k1⟩ := f
  obtain ⟨w2, n2, k2⟩ := g
  rcases h with ⟨z, p, dx, y, rfl, hp, hy⟩ | ⟨z, p, dx, y, rfl, hp, hy⟩ <;> rcases h' with ⟨z', q, dy, y', e, hq, hy'⟩ | ⟨z', q, dy, y', e, hq, hy'⟩ <;> cases e <;> rw [hp] at hq <;> injection hq with hq <;> injection hq with c1 c2 c3
  · simp only [List.cons.injEq, Prod.mk.injEq, V.str.injEq, true_and, and_true] at c3
    obtain ⟨rfl, rfl⟩ := c3
    have c6 : k1 = k2 := InnO.det hC hy hy'
    have c7 : w1 = w2 := z.trans z'.symm
    rw [c6, c7]
  · cases hC _ _ (by decide) (by decide) c1
  · cases hC _ _ (by decide) (by decide) c1
  · simp only [List.cons.injEq, Prod.mk.injEq, V.str.injEq, true_and, and_true] at c3
    obtain ⟨rfl, rfl, rfl⟩ := c3
    have c6 : k1 = k2 := InnO.det hC hy hy'
    rw [c6]
def DWay (a : Ad) : EqvB := fun x y H φ => ∃ t t', WayO a H x t ∧ WayO a H y t' ∧ (φ ↔ t = t')
def DPrt (a : Ad) : EqvB := fun x y H φ => ∃ t t', PrtO a H x t ∧ PrtO a H y t' ∧ (φ ↔ t = t')
def RWay (a : Ad) (d : Bool) : Addr → V → Hp → Prop → Prop := fun p y H φ => ∃ t t', t.d = d ∧ WayO a H (.ref p) t ∧ WayO a H y t' ∧ (φ ↔ t = t')
def RPrt (a : Ad) (b : Bool) : Addr → V → Hp → Prop → Prop := fun p y H φ => ∃ t t', (b = true ↔ t.w = ("" : Str)) ∧ PrtO a H (.ref p) t ∧ PrtO a H y t' ∧ (φ ↔ t = t')
theorem WayO.itm {a : Ad} {H : Hp} {v : V} {t : WayT} (h : WayO a H v t) : Itm a H v (some (if t.d = true then 6 else 5)) := by
  obtain ⟨p, dx, y, rfl, hp, hy⟩ := h
  exact .ins (by split <;> decide) hp
theorem PrtO.itm {a : Ad} {H : Hp} {v : V} {t : PrtT} (h : PrtO a H v t) : (t.w = "" ∧ Itm a H v (some 7)) ∨ (t.w ≠ "" ∧ Itm a H v (some 8)) := by
  rcases h with ⟨z, p, dx, y, rfl, hp, hy⟩ | ⟨z, p, dx, y, rfl, hp, hy⟩
  · exact .inl ⟨z, .ins (by decide) hp⟩
  · exact .inr ⟨z, .ins (by decide) hp⟩
theorem i_fqB {K : PySem.W.Frag} {D : EqvB} {f : Str} {C C' p q dx dy : Addr} {fs gs : List (Str × V)} {v u : V} {σ : L2.St} {H : Hp} {Q : VK} {φ : Prop} (h0 : σ[0]? = some (some (.ref p))) (h1 : σ[1]? = some (some (.ref q))) (hp : H p = some (.ins C dx fs)) (hq : H q = some (.ins C' dy gs))
    (cl : Cls K C) (no : NoAttr K C f) (cl' : Cls K C') (no' : NoAttr K C' f) (l1 : fs.lookup f = some v) (l2 : gs.lookup f = some u) (d : D v u H φ) (k : ∀ (b : Bool) H', (b = true ↔ φ) → Ext H H' → Q (.bl b) H') : tOp (rEqB D) (tFld K (tVar 0) f) (tFld K (tVar 1) f) σ H Q :=
  ⟨_, h0, p, C, dx, fs, v, rfl, hp, cl, no, l1, _, h1, q, C', dy, gs, u, rfl, hq, cl', no', l2, φ, d, k⟩
section
variable {P : Program} {w : World} {K : PySem.W.Frag} {mg : Str → Option Value} {base : Heap} {a : Ad}
theorem ok_eqB5 (T : Txt K mg a) : FnOk P w K mg base CX0 3 (a.E 5).f (a.E 5).fd ["self", "other"] (spEqB (RWay a false)) := by
  have sc : FnScope ["self", "other"] ["self", "other"] (defScope (inClass (top 16) 1)) := ⟨rfl, rfl, rfl, by decide +kernel, rfl, by decide +kernel, by decide +kernel⟩
  refine ok0 T.E5 sc (fun vs H Q E h => ?_) (fun cdv A outer s H vs Q E hr h => ?_)
  · obtain ⟨p, q, φ, rfl, _⟩ := h
    rfl
  · obtain ⟨p, y, φ, rfl, ⟨⟨w1, n1, d1, k1⟩, ⟨w2, n2, d2, k2⟩, ht, hp, hy, hφ⟩, k⟩ := h
    cases ht
    have kc := T.kc 5 (by decide)
    refine ⟨_, (pss_one (ps_ret (pe_and (pe_callB call_isi (by rfl) T.isinstance (by decide +kernel) (pa_cons (pv 1) (pa_cons (pe_glob (v := .ref (a.C 5)) rfl (T.kc 5 (by decide)).gl rfl) pa_nil))) (pe_and (pe_cmpR op_eq (pe_fld (pv 0) rfl) (pe_fld (pv 1) rfl) (nomark _)) (pe_and (pe_cmpR op_eq (pe_fld (pv 0) rfl) (pe_fld (pv 1) rfl) (nomark _)) (pe_one (pe_cmpR (op_eqB (rcB_inn T) (hr.mono (by decide))) (pe_fld (pv 0) rfl) (pe_fld (pv 1) rfl) (nomark _)))))))), ?_⟩
    walk_at "go"
    refine i_isC T (by decide) hy.itm ?_
    obtain ⟨_, dx, x1, e, hp, hk⟩ := hp
    cases e
    obtain ⟨q, dy, y1, rfl, hq, hk'⟩ := hy
    have hφ' : φ ↔ (w1 = w2 ∧ n1 = n2 ∧ false = d2 ∧ k1 = k2) := hφ.trans ⟨(fun z => by cases z; exact ⟨rfl, rfl, rfl, rfl⟩), fun ⟨a, b, c, d⟩ => by rw [a, b, c, d]⟩
    cases d2 with
    | true => exact ⟨_, rfl, i_no rfl (k _ _ (no_b fun z => by cases (hφ'.mp z).2.2.1) Ext.rfl')⟩
    | false =>
      refine ⟨_, rfl, i_yes rfl ?_⟩
      refine i_andV (i_fqq rfl rfl hp hq kc.cl (kc.no _ (by decide)) kc.cl (kc.no _ (by decide)) rfl rfl rfl ⟨_, rfl, i_itd (fun e1 => ?_) (fun e1 => ?_)⟩)
      · refine i_andV (i_fqq rfl rfl hp hq kc.cl (kc.no _ (by decide)) kc.cl (kc.no _ (by decide)) rfl rfl rfl ⟨_, rfl, i_itd (fun e2 => ?_) (fun e2 => ?_)⟩)
        · exact i_fqB rfl rfl hp hq kc.cl (kc.no _ (by decide)) kc.cl (kc.no _ (by decide)) rfl rfl ⟨k1, k2, hk, hk', Iff.rfl⟩ fun b H' hb x => k b H' (hb.trans (Iff.trans ⟨fun z => ⟨V.str.inj e1, V.str.inj e2, rfl, z⟩, fun z => z.2.2.2⟩ hφ'.symm)) x
        · exact k _ _ (no_b fun z => e2 (by rw [(hφ'.mp z).2.1])) Ext.rfl'
      · exact k _ _ (no_b fun z => e1 (by rw [(hφ'.mp z).1])) Ext.rfl'
theorem ok_eqB6 (T : Txt K mg a) : FnOk P w K mg base CX0 3 (a.E 6).f (a.E 6).fd ["self", "other"] (spEqB (RWay a true)) := by
  have sc : FnScope ["self", "other"] ["self", "other"] (defScope (inClass (top 17) 1)) := ⟨rfl, rfl, rfl, by decide +kernel, rfl, by decide +kernel, by decide +kernel⟩
  refine ok0 T.E6 sc (fun vs H Q E h => ?_) (fun cdv A outer s H vs Q E hr h => ?_)
  · obtain ⟨p, q, φ, rfl, _⟩ := h
    rfl
  · obtain ⟨p, y, φ, rfl, ⟨⟨w1, n1, d1, k1⟩, ⟨w2, n2, d2, k2⟩, ht, hp, hy, hφ⟩, k⟩ := h
    cases ht
    have kc := T.kc 6 (by decide)
    refine ⟨_, (pss_one (ps_ret (pe_and (pe_callB call_isi (by rfl) T.isinstance (by decide +kernel) (pa_cons (pv 1) (pa_cons (pe_glob (v := .ref (a.C 6)) rfl (T.kc 6 (by decide)).gl rfl) pa_nil))) (pe_and (pe_cmpR op_eq (pe_fld (pv 0) rfl) (pe_fld (pv 1) rfl) (nomark _)) (pe_and (pe_cmpR op_eq (pe_fld (pv 0) rfl) (pe_fld (pv 1) rfl) (nomark _)) (pe_one (pe_cmpR (op_eqB (rcB_inn T) (hr.mono (by decide))) (pe_fld (pv 0) rfl) (pe_fld (pv 1) rfl) (nomark _)))))))), ?_⟩
    walk_at "go"
    refine i_isC T (by decide) hy.itm ?_
    obtain ⟨_, dx, x1, e, hp, hk⟩ := hp
    cases e
    obtain ⟨q, dy, y1, rfl, hq, hk'⟩ := hy
    have hφ' : φ ↔ (w1 = w2 ∧ n1 = n2 ∧ true = d2 ∧ k1 = k2) := hφ.trans ⟨(fun z => by cases z; exact ⟨rfl, rfl, rfl, rfl⟩), fun ⟨a, b, c, d⟩ => by rw [a, b, c, d]⟩
    cases d2 with
    | false => exact ⟨_, rfl, i_no rfl (k _ _ (no_b fun z => by cases (hφ'.mp z).2.2.1) Ext.rfl')⟩
    | true =>
      refine ⟨_, rfl, i_yes rfl ?_⟩
      refine i_andV (i_fqq rfl rfl hp hq kc.cl (kc.no _ (by decide)) kc.cl (kc.no _ (by decide)) rfl rfl rfl ⟨_, rfl, i_itd (fun e1 => ?_) (fun e1 => ?_)⟩)
      · refine i_andV (i_fqq rfl rfl hp hq kc.cl (kc.no _ (by decide)) kc.cl (kc.no _ (by decide)) rfl rfl rfl ⟨_, rfl, i_itd (fun e2 => ?_) (fun e2 => ?_)⟩)
        · exact i_fqB rfl rfl hp hq kc.cl (kc.no _ (by decide)) kc.cl (kc.no _ (by decide)) rfl rfl ⟨k1, k2, hk, hk', Iff.rfl⟩ fun b H' hb x => k b H' (hb.trans (Iff.trans ⟨fun z => ⟨V.str.inj e1, V.str.inj e2, rfl, z⟩, fun z => z.2.2.2⟩ hφ'.symm)) x
        · exact k _ _ (no_b fun z => e2 (by rw [(hφ'.mp z).2.1])) Ext.rfl'
      · exact k _ _ (no_b fun z => e1 (by rw [(hφ'.mp z).1])) Ext.rfl'
theorem ok_eqB7 (T : Txt K mg a) : FnOk P w K mg base CX0 3 (a.E 7).f (a.E 7).fd ["self", "other"] (spEqB (RPrt a true)) := by
  have sc : FnScope ["self", "other"] ["self", "other"] (defScope (inClass (top 18) 1)) := ⟨rfl, rfl, rfl, by decide +kernel, rfl, by decide +kernel, by decide +kernel⟩
  refine ok0 T.E7 sc (fun vs H Q E h => ?_) (fun cdv A outer s H vs Q E hr h => ?_)
  · obtain ⟨p, q, φ, rfl, _⟩ := h
    rfl
  · obtain ⟨p, y, φ, rfl, ⟨⟨w1, n1, k1⟩, ⟨w2, n2, k2⟩, ht, hp, hy, hφ⟩, k⟩ := h
    have hw1 : w1 = "" := ht.mp rfl
    subst hw1
    have kc := T.kc 7 (by decide)
    refine ⟨_, (pss_one (ps_ret (pe_and (pe_callB call_isi (by rfl) T.isinstance (by decide +kernel) (pa_cons (pv 1) (pa_cons (pe_glob (v := .ref (a.C 7)) rfl (T.kc 7 (by decide)).gl rfl) pa_nil))) (pe_and (pe_cmpR op_eq (pe_fld (pv 0) rfl) (pe_fld (pv 1) rfl) (nomark _)) (pe_one (pe_cmpR (op_eqB (rcB_inn T) (hr.mono (by decide))) (pe_fld (pv 0) rfl) (pe_fld (pv 1) rfl) (nomark _))))))), ?_⟩
    walk_at "go"
    rcases hp with ⟨_, _, dx, x1, e, hp, hk⟩ | ⟨z, _⟩
    case inr => exact absurd rfl z
    cases e
    have hφ' : φ ↔ ("" = w2 ∧ n1 = n2 ∧ k1 = k2) := hφ.trans ⟨(fun z => by cases z; exact ⟨rfl, rfl, rfl⟩), fun ⟨a, b, d⟩ => by rw [← a, b, d]⟩
    rcases hy with ⟨z2, q, dy, y1, rfl, hq, hk'⟩ | ⟨z2, q, dy, y1, rfl, hq, hk'⟩
    · refine i_isC T (by decide) (.ins (by decide) hq) ?_
      refine ⟨_, rfl, i_yes (decide_eq_true rfl) ?_⟩
      refine i_andV (i_fqq rfl rfl hp hq kc.cl (kc.no _ (by decide)) kc.cl (kc.no _ (by decide)) rfl rfl rfl ⟨_, rfl, i_itd (fun e1 => ?_) (fun e1 => ?_)⟩)
      · exact i_fqB rfl rfl hp hq kc.cl (kc.no _ (by decide)) kc.cl (kc.no _ (by decide)) rfl rfl ⟨k1, k2, hk, hk', Iff.rfl⟩ fun b H' hb x => k b H' (hb.trans (Iff.trans ⟨fun z => ⟨z2.symm, V.str.inj e1, z⟩, fun z => z.2.2⟩ hφ'.symm)) x
      · exact k _ _ (no_b fun z => e1 (by rw [(hφ'.mp z).2.1])) Ext.rfl'
    · refine i_isC T (by decide) (.ins (by decide) hq) ?_
      exact ⟨_, rfl, i_no (decide_eq_false (by decide)) (k _ _ (no_b fun z => z2 (hφ'.mp z).1.symm) Ext.rfl')⟩
theorem ok_eqB8 (T : Txt K mg a) : FnOk P w K mg base CX0 3 (a.E 8).f (a.E 8).fd ["self", "other"] (spEqB (RPrt a false)) := by
  have sc : FnScope ["self", "other"] ["self", "other"] (defScope (inClass (top 19) 1)) := ⟨rfl, rfl, rfl, by decide +kernel, rfl, by decide +kernel, by decide +kernel⟩
  refine ok0 T.E8 sc (fun vs H Q E h => ?_) (fun cdv A outer s H vs Q E hr h => ?_)
  · obtain ⟨p, q, φ, rfl, _⟩ := h
    rfl
  · obtain ⟨p, y, φ, rfl, ⟨⟨w1, n1, k1⟩, ⟨w2, n2, k2⟩, ht, hp, hy, hφ⟩, k⟩ := h
    have hw1 : w1 ≠ "" := fun z => by cases ht.mpr z
    have kc := T.kc 8 (by decide)
    refine ⟨_, (pss_one (ps_ret (pe_and (pe_callB call_isi (by rfl) T.isinstance (by decide +kernel) (pa_cons (pv 1) (pa_cons (pe_glob (v := .ref (a.C 8)) rfl (T.kc 8 (by decide)).gl rfl) pa_nil))) (pe_and (pe_cmpR op_eq (pe_fld (pv 0) rfl) (pe_fld (pv 1) rfl) (nomark _)) (pe_and (pe_cmpR op_eq (pe_fld (pv 0) rfl) (pe_fld (pv 1) rfl) (nomark _)) (pe_one (pe_cmpR (op_eqB (rcB_inn T) (hr.mono (by decide))) (pe_fld (pv 0) rfl) (pe_fld (pv 1) rfl) (nomark _)))))))), ?_⟩
    walk_at "go"
    rcases hp with ⟨z, _⟩ | ⟨_, _, dx, x1, e, hp, hk⟩
    case inl => exact absurd z hw1
    cases e
    have hφ' : φ ↔ (w1 = w2 ∧ n1 = n2 ∧ k1 = k2) := hφ.trans ⟨(fun z => by cases z; exact ⟨rfl, rfl, rfl⟩), fun ⟨a, b, d⟩ => by rw [a, b, d]⟩
    rcases hy with ⟨z2, q, dy, y1, rfl, hq, hk'⟩ | ⟨z2, q, dy, y1, rfl, hq, hk'⟩
    · refine i_isC T (by decide) (.ins (by decide) hq) ?_
      exact ⟨_, rfl, i_no (decide_eq_false (by decide)) (k _ _ (no_b fun z => hw1 ((hφ'.mp z).1.trans z2)) Ext.rfl')⟩
    · refine i_isC T (by decide) (.ins (by decide) hq) ?_
      refine ⟨_, rfl, i_yes (decide_eq_true rfl) ?_⟩
      refine i_andV (i_fqq rfl rfl hp hq kc.cl (kc.no _ (by decide)) kc.cl (kc.no _ (by decide)) rfl rfl rfl ⟨_, rfl, i_itd (fun e1 => ?_) (fun e1 => ?_)⟩)
      · refine i_andV (i_fqq rfl rfl hp hq kc.cl (kc.no _ (by decide)) kc.cl (kc.no _ (by decide)) rfl rfl rfl ⟨_, rfl, i_itd (fun e2 => ?_) (fun e2 => ?_)⟩)
        · exact i_fqB rfl rfl hp hq kc.cl (kc.no _ (by decide)) kc.cl (kc.no _ (by decide)) rfl rfl ⟨k1, k2, hk, hk', Iff.rfl⟩ fun b H' hb x => k b H' (hb.trans (Iff.trans ⟨fun z => ⟨V.str.inj e1, V.str.inj e2, z⟩, fun z => z.2.2⟩ hφ'.symm)) x
        · exact k _ _ (no_b fun z => e2 (by rw [(hφ'.mp z).2.1])) Ext.rfl'
      · exact k _ _ (no_b fun z => e1 (by rw [(hφ'.mp z).1])) Ext.rfl'
end
end Me
set_option maxHeartbeats 8000000
namespace Me
open PySem L2


theorem Txt.inj {K : PySem.W.Frag} {mg : Str → Option Value} {a : Ad} (T : Txt K mg a) : ∀ i j, i < 11 → j < 11 → a.C i = a.C j → i = j := by
  intro i j hi hj e
  have h1 := (T.kc i hi).kt j hj
  have h2 := (T.kc j hj).kt j hj
  rw [e, h2, decide_eq_true rfl] at h1
  exact of_decide_eq_true (Option.some.inj h1).symm
theorem mon_way {a : Ad} : ∀ x y H H' φ, Ext H H' → DWay a x y H φ → DWay a x y H' φ := fun x y H H' φ e ⟨t, t', h1, h2, h3⟩ => ⟨t, t', h1.ext e, h2.ext e, h3⟩
theorem mon_prt {a : Ad} : ∀ x y H H' φ, Ext H H' → DPrt a x y H φ → DPrt a x y H' φ := fun x y H H' φ e ⟨t, t', h1, h2, h3⟩ => ⟨t, t', h1.ext e, h2.ext e, h3⟩
theorem AllO.tup {α : Type} {R : Hp → V → α → Prop} {D : EqvB} {H : Hp} {p q : Addr} {xs ys : List V} {ts us : List α} (hD : ∀ x y t u, R H x t → R H y u → ∀ φ, (φ ↔ t = u) → D x y H φ) (hp : H p = some (.tup xs)) (hq : H q = some (.tup ys)) (h : AllO R H xs ts) (h' : AllO R H ys us) :
    DTupB D (.ref p) (.ref q) H (ts = us) := by
  refine ⟨p, q, xs, ys, fun i => ts[i]? = us[i]?, rfl, rfl, hp, hq, fun i x y hx hy => ?_, ⟨fun z => ?_, fun z => ?_⟩⟩
  · obtain ⟨t, ht, r⟩ := h.2 i x hx
    obtain ⟨u, hu, r'⟩ := h'.2 i y hy
    exact hD x y t u r r' _ (by show ts[i]? = us[i]? ↔ _; rw [ht, hu]; exact ⟨Option.some.inj, fun z => by rw [z]⟩)
  · subst z
    exact ⟨h.1.trans h'.1.symm, fun i _ => rfl⟩
  · refine List.ext_getElem? fun i => ?_
    rcases Nat.lt_or_ge i xs.length with l | l
    · exact z.2 i l
    · rw [List.getElem?_eq_none (by rw [← h.1]; exact l), List.getElem?_eq_none (by rw [← h'.1, ← z.1]; exact l)]
section
variable {mg : Str → Option Value} {a : Ad}
theorem rcB_way {X : Cx} (T : Txt X.K X.mg a) : RcB X 3 (DWay a) := by
  intro A pins s σ H x y u v φ sb I rx ry d
  obtain ⟨t, t', hx, hy, hφ⟩ := d
  have hx0 := hx
  have hy0 := hy
  obtain ⟨p, dx, x1, rfl, hp, hk⟩ := hx
  obtain ⟨q, dy, y1, rfl, hq, hk'⟩ := hy
  have nf : ∀ i, i < 11 → PySem.W.notFirst X.K (a.C i) (.ref (a.C (if t'.d = true then 6 else 5))) = true := fun i hi => (T.kc i hi).nf _ (by split <;> decide)
  cases ht : t.d with
  | false =>
    rw [ht] at hp
    exact rcB_ins (ok_eqB5 T) (T.kc 5 (by decide)).eqA (T.kc 5 (by decide)).eqF T.Eb5 pass0 A pins s σ H _ _ u v φ sb I rx ry ⟨p, dx, _, rfl, hp, .inr ⟨q, _, dy, _, rfl, hq, nf 5 (by decide)⟩, t, t', ht, hx0, hy0, hφ⟩
  | true =>
    rw [ht] at hp
    exact rcB_ins (ok_eqB6 T) (T.kc 6 (by decide)).eqA (T.kc 6 (by decide)).eqF T.Eb6 pass0 A pins s σ H _ _ u v φ sb I rx ry ⟨p, dx, _, rfl, hp, .inr ⟨q, _, dy, _, rfl, hq, nf 6 (by decide)⟩, t, t', ht, hx0, hy0, hφ⟩
theorem prt_cls {H : Hp} {v : V} {t : PrtT} (h : PrtO a H v t) : ∃ q dy gs j, v = .ref q ∧ j < 11 ∧ H q = some (.ins (a.C j) dy gs) := by
  rcases h with ⟨z, p, dx, y, rfl, hp, hy⟩ | ⟨z, p, dx, y, rfl, hp, hy⟩
  · exact ⟨p, dx, _, 7, rfl, by decide, hp⟩
  · exact ⟨p, dx, _, 8, rfl, by decide, hp⟩
theorem rcB_prt {X : Cx} (T : Txt X.K X.mg a) : RcB X 3 (DPrt a) := by
  intro A pins s σ H x y u v φ sb I rx ry d
  obtain ⟨t, t', hx, hy, hφ⟩ := d
  have hx0 := hx
  have hy0 := hy
  obtain ⟨q, dy, gs, j, rfl, hj, hq⟩ := prt_cls hy
  rcases hx with ⟨z, p, dx, x1, rfl, hp, hk⟩ | ⟨z, p, dx, x1, rfl, hp, hk⟩
  · exact rcB_ins (ok_eqB7 T) (T.kc 7 (by decide)).eqA (T.kc 7 (by decide)).eqF T.Eb7 pass0 A pins s σ H _ _ u v φ sb I rx ry ⟨p, dx, _, rfl, hp, .inr ⟨q, _, dy, _, rfl, hq, (T.kc 7 (by decide)).nf j hj⟩, t, t', ⟨fun _ => z, fun _ => rfl⟩, hx0, hy0, hφ⟩
  · exact rcB_ins (ok_eqB8 T) (T.kc 8 (by decide)).eqA (T.kc 8 (by decide)).eqF T.Eb8 pass0 A pins s σ H _ _ u v φ sb I rx ry ⟨p, dx, _, rfl, hp, .inr ⟨q, _, dy, _, rfl, hq, (T.kc 8 (by decide)).nf j hj⟩, t, t', ⟨(fun e => by cases e), fun e => absurd e z⟩, hx0, hy0, hφ⟩
theorem rcB_ways {X : Cx} (T : Txt X.K X.mg a) : RcB X 4 (DTupB (DWay a)) := rcB_tup mon_way (EqB.of (rcB_way T)
  (fun x y H φ ⟨t, t', h1, h2, _⟩ => by
    obtain ⟨p, dx, x1, rfl, hp, hk⟩ := h1
    obtain ⟨q, dy, y1, rfl, hq, hk'⟩ := h2
    exact ⟨p, q, rfl, rfl⟩) fun x H φ ⟨t, t', h1, h2, h3⟩ => h3.mpr (h1.det T.inj h2))
theorem rcB_parts {X : Cx} (T : Txt X.K X.mg a) : RcB X 4 (DTupB (DPrt a)) := rcB_tup mon_prt (EqB.of (rcB_prt T)
  (fun x y H φ ⟨t, t', h1, h2, _⟩ => by
    obtain ⟨p, _, _, _, rfl, _⟩ := prt_cls h1
    obtain ⟨q, _, _, _, rfl, _⟩ := prt_cls h2
    exact ⟨p, q, rfl, rfl⟩) fun x H φ ⟨t, t', h1, h2, h3⟩ => h3.mpr (h1.det T.inj h2))
end
def RCho (a : Ad) : Addr → V → Hp → Prop → Prop := fun p y H φ => ∃ t t', TrmO a H (.ref p) (.choice t) ∧ TrmO a H y (.choice t') ∧ (φ ↔ t = t')
def RRow (a : Ad) : Addr → V → Hp → Prop → Prop := fun p y H φ => ∃ t t', TrmO a H (.ref p) (.row t) ∧ TrmO a H y (.row t') ∧ (φ ↔ t = t')
section
variable {P : Program} {w : World} {K : PySem.W.Frag} {mg : Str → Option Value} {base : Heap} {a : Ad}
theorem ok_eqB9 (T : Txt K mg a) : FnOk P w K mg base CX0 5 (a.E 9).f (a.E 9).fd ["self", "other"] (spEqB (RCho a)) := by
  have sc : FnScope ["self", "other"] ["self", "other"] (defScope (inClass (top 20) 1)) := ⟨rfl, rfl, rfl, by decide +kernel, rfl, by decide +kernel, by decide +kernel⟩
  refine ok0 T.E9 sc (fun vs H Q E h => ?_) (fun cdv A outer s H vs Q E hr h => ?_)
  · obtain ⟨p, q, φ, rfl, _⟩ := h
    rfl
  · obtain ⟨p, y, φ, rfl, ⟨t, t', ⟨_, dx, x1, xs, e, hp, hx1, hk⟩, ⟨q, dy, y1, ys, e', hq, hy1, hk'⟩, hφ⟩, k⟩ := h
    cases e
    subst e'
    have kc := T.kc 9 (by decide)
    refine ⟨_, (pss_one (ps_ret (pe_and (pe_callB call_isi (by rfl) T.isinstance (by decide +kernel) (pa_cons (pv 1) (pa_cons (pe_glob (v := .ref (a.C 9)) rfl (T.kc 9 (by decide)).gl rfl) pa_nil))) (pe_one (pe_cmpR (op_eqB (rcB_ways T) (hr.mono (by decide))) (pe_fld (pv 0) rfl) (pe_fld (pv 1) rfl) (nomark _)))))), ?_⟩
    walk_at "go"
    refine i_isC T (by decide) (.ins (by decide) hq) ?_
    refine ⟨_, rfl, i_yes (decide_eq_true rfl) ?_⟩
    exact i_fqB rfl rfl hp hq kc.cl (kc.no _ (by decide)) kc.cl (kc.no _ (by decide)) rfl rfl (AllO.tup (fun x y t u h1 h2 φ h3 => ⟨t, u, h1, h2, h3⟩) hx1 hy1 hk hk') fun b H' hb x => k b H' (hb.trans hφ.symm) x
theorem ok_eqB10 (T : Txt K mg a) : FnOk P w K mg base CX0 5 (a.E 10).f (a.E 10).fd ["self", "other"] (spEqB (RRow a)) := by
  have sc : FnScope ["self", "other"] ["self", "other"] (defScope (inClass (top 21) 1)) := ⟨rfl, rfl, rfl, by decide +kernel, rfl, by decide +kernel, by decide +kernel⟩
  refine ok0 T.E10 sc (fun vs H Q E h => ?_) (fun cdv A outer s H vs Q E hr h => ?_)
  · obtain ⟨p, q, φ, rfl, _⟩ := h
    rfl
  · obtain ⟨p, y, φ, rfl, ⟨t, t', ⟨_, dx, x1, xs, e, hp, hx1, hk⟩, ⟨q, dy, y1, ys, e', hq, hy1, hk'⟩, hφ⟩, k⟩ := h
    cases e
    subst e'
    have kc := T.kc 10 (by decide)
    refine ⟨_, (pss_one (ps_ret (pe_and (pe_callB call_isi (by rfl) T.isinstance (by decide +kernel) (pa_cons (pv 1) (pa_cons (pe_glob (v := .ref (a.C 10)) rfl (T.kc 10 (by decide)).gl rfl) pa_nil))) (pe_one (pe_cmpR (op_eqB (rcB_parts T) (hr.mono (by decide))) (pe_fld (pv 0) rfl) (pe_fld (pv 1) rfl) (nomark _)))))), ?_⟩
    walk_at "go"
    refine i_isC T (by decide) (.ins (by decide) hq) ?_
    refine ⟨_, rfl, i_yes (decide_eq_true rfl) ?_⟩
    exact i_fqB rfl rfl hp hq kc.cl (kc.no _ (by decide)) kc.cl (kc.no _ (by decide)) rfl rfl (AllO.tup (fun x y t u h1 h2 φ h3 => ⟨t, u, h1, h2, h3⟩) hx1 hy1 hk hk') fun b H' hb x => k b H' (hb.trans hφ.symm) x
end
/-- two of one sort -/
def Trm.sort : Trm → Nat
  | .smp _ => 0
  | .choice _ => 1
  | .row _ => 2
def DTrm (a : Ad) : EqvB := fun x y H φ => ∃ t t' : Trm, t.sort = t'.sort ∧ TrmO a H x t ∧ TrmO a H y t' ∧ (φ ↔ t = t')
theorem rcB_trm {X : Cx} {a : Ad} (T : Txt X.K X.mg a) : RcB X 5 (DTrm a) := by
  intro A pins s σ H x y u v φ sb I rx ry d
  obtain ⟨t, t', hs, hx, hy, hφ⟩ := d
  match t, t', hs, hx, hy, hφ with
  | .smp t, .smp t', _, hx, hy, hφ => exact (rcB_inn T).mono (by decide) A pins s σ H x y u v φ sb I rx ry ⟨.smp t, .smp t', hx, hy, hφ.trans ⟨(fun z => by cases z; rfl), fun z => by cases z; rfl⟩⟩
  | .choice t, .choice t', _, hx, hy, hφ =>
    have hx0 := hx
    have hy0 := hy
    obtain ⟨p, dx, x1, xs, rfl, hp, hx1, hk⟩ := hx
    obtain ⟨q, dy, y1, ys, rfl, hq, hy1, hk'⟩ := hy
    exact rcB_ins (ok_eqB9 T) (T.kc 9 (by decide)).eqA (T.kc 9 (by decide)).eqF T.Eb9 pass0 A pins s σ H _ _ u v φ sb I rx ry ⟨p, dx, _, rfl, hp, .inr ⟨q, _, dy, _, rfl, hq, (T.kc 9 (by decide)).nf 9 (by decide)⟩, t, t', hx0, hy0, hφ.trans ⟨(fun z => by cases z; rfl), fun z => by cases z; rfl⟩⟩
  | .row t, .row t', _, hx, hy, hφ =>
    have hx0 := hx
    have hy0 := hy
    obtain ⟨p, dx, x1, xs, rfl, hp, hx1, hk⟩ := hx
    obtain ⟨q, dy, y1, ys, rfl, hq, hy1, hk'⟩ := hy
    exact rcB_ins (ok_eqB10 T) (T.kc 10 (by decide)).eqA (T.kc 10 (by decide)).eqF T.Eb10 pass0 A pins s σ H _ _ u v φ sb I rx ry ⟨p, dx, _, rfl, hp, .inr ⟨q, _, dy, _, rfl, hq, (T.kc 10 (by decide)).nf 10 (by decide)⟩, t, t', hx0, hy0, hφ.trans ⟨(fun z => by cases z; rfl), fun z => by cases z; rfl⟩⟩
end Me
set_option maxHeartbeats 8000000
namespace Me
open PySem L2


end Me
local macro_rules | `(tactic| walk_at "go3") => `(tactic| repeat (first | walk_at "go1" | (with_reducible refine And.intro (a := L2.V.non = L2.V.non) rfl ?_) | ((with_reducible refine' Me.i_yes ?_ ?_); (first | rfl | exact decide_eq_true rfl)) | ((with_reducible refine' Me.i_no ?_ ?_); (first | rfl | (simp; done)))))
namespace Me
open PySem L2
/-! ### _law_same of nested lists, with either answer -/
inductive Nd where
  | at (v : V)
  | lst (l : List Nd)
def Nst (H : Hp) : Nat → V → Nd → Prop
  | 0, v, d => d = .at v ∧ flatV v = true
  | n + 1, v, d => (d = .at v ∧ flatV v = true) ∨ ∃ ds p xs, d = .lst ds ∧ v = .ref p ∧ H p = some (.lst xs) ∧ xs.length = ds.length ∧ xs.length ≤ 1000 ∧ ∀ (i : Nat) x, xs[i]? = some x → ∃ e, ds[i]? = some e ∧ Nst H n x e
theorem Nst.ways {H : Hp} {n : Nat} {v : V} {d : Nd} (h : Nst H n v d) : (d = .at v ∧ flatV v = true) ∨ ∃ m, n = m + 1 ∧ ∃ ds p xs, d = .lst ds ∧ v = .ref p ∧ H p = some (.lst xs) ∧ xs.length = ds.length ∧ xs.length ≤ 1000 ∧ ∀ (i : Nat) x, xs[i]? = some x → ∃ e, ds[i]? = some e ∧ Nst H m x e := by
  cases n with
  | zero => exact .inl h
  | succ m =>
    rcases h with h | h
    · exact .inl h
    · exact .inr ⟨m, rfl, h⟩
theorem at_ne {v : V} {l : List Nd} : Nd.at v ≠ .lst l := fun z => by cases z
theorem at_eq {v u : V} : v = u ↔ Nd.at v = .at u := ⟨fun z => by rw [z], fun z => by cases z; rfl⟩
section
variable {P : Program} {w : World} {K : PySem.W.Frag} {mg : Str → Option Value} {base : Heap} {a : Ad}
def spSame (n : Nat) : Sp := fun vs H Q _ => ∃ x y d e, vs = [x, y] ∧ Nst H n x d ∧ Nst H n y e ∧ ∀ b : Bool, (b = true ↔ d = e) → Q (.bl b) H
theorem same_step (T : Txt K mg a) (n : Nat) {sp : Sp} (G__law_same : FnOk P w K mg base CX0 (n + 1) a._law_same.f a._law_same.fd ["_law_told", "_law_due"] sp) (hsp : ∀ m, n = m + 1 → ∀ vs H Q E, spSame m vs H Q E → sp vs H Q E) :
    FnOk P w K mg base CX0 (n + 2) a._law_same.f a._law_same.fd ["_law_told", "_law_due"] (spSame n) := by
    have G__law_is_int : FnOk P w K mg base CX0 1 a._law_is_int.f a._law_is_int.fd ["_law_told"] spIsInt := ok_law_is_int T
    have sc : FnScope ["_law_told", "_law_due", "_law_k"] ["_law_told", "_law_due"] (defScope (top 30)) := ⟨rfl, rfl, rfl, by decide +kernel, rfl, by decide +kernel, by decide +kernel⟩
    refine T._law_same.ok sc (fun vs H Q E h => ?_) (fun cdv A outer s H vs Q E hr h => ?_)
    · obtain ⟨x, y, d, e, rfl, _⟩ := h
      rfl
    · obtain ⟨x, y, d, e, rfl, hd, he, k⟩ := h
      refine ⟨_, (pss_cons (ps_if (pt_cmpR op_isN (pv 1) pe_non (nomark _))
      (pss_one (ps_ret (pe_cmpR op_isN (pv 0) pe_non (nomark _))))
      pss_nil)
      (pss_cons (ps_if (pt_val (pe_callB call_isi (by rfl) T.isinstance (by decide +kernel) (pa_cons (pv 1) (pa_cons (pe_bltn (v := .ty "bool") (by rfl) T.bool (by decide +kernel) rfl) pa_nil))))
      (pss_one (ps_ret (pe_and (pe_callB call_isi (by rfl) T.isinstance (by decide +kernel) (pa_cons (pv 0) (pa_cons (pe_bltn (v := .ty "bool") (by rfl) T.bool (by decide +kernel) rfl) pa_nil))) (pe_one (pe_cmpR op_eq (pv 0) (pv 1) (nomark _))))))
      pss_nil)
      (pss_cons (ps_if (pt_val (pe_callB call_isi (by rfl) T.isinstance (by decide +kernel) (pa_cons (pv 1) (pa_cons (pe_bltn (v := .ty "int") (by rfl) T.int (by decide +kernel) rfl) pa_nil))))
      (pss_one (ps_ret (pe_and (pe_call G__law_is_int (hr.mono (by first | decide | omega)) rfl T._law_is_int.mg T._law_is_int.kp T._law_is_int.b .nil pass0 (pa_cons (pv 0) pa_nil)) (pe_one (pe_cmpR op_eq (pv 0) (pv 1) (nomark _))))))
      pss_nil)
      (pss_cons (ps_if (pt_val (pe_callB call_isi (by rfl) T.isinstance (by decide +kernel) (pa_cons (pv 1) (pa_cons (pe_bltn (v := .ty "str") (by rfl) T.str (by decide +kernel) rfl) pa_nil))))
      (pss_one (ps_ret (pe_and (pe_callB call_isi (by rfl) T.isinstance (by decide +kernel) (pa_cons (pv 0) (pa_cons (pe_bltn (v := .ty "str") (by rfl) T.str (by decide +kernel) rfl) pa_nil))) (pe_one (pe_cmpR op_eq (pv 0) (pv 1) (nomark _))))))
      pss_nil)
      (pss_cons (ps_if (pt_val (pe_callB call_isi (by rfl) T.isinstance (by decide +kernel) (pa_cons (pv 1) (pa_cons (pe_bltn (v := .ty "dict") (by rfl) T.dict (by decide +kernel) rfl) pa_nil))))
      (pss_one ps_never)
      pss_nil)
      (pss_cons (ps_if (PW.pt (pw_and (pt_val (pe_callB call_isi (by rfl) T.isinstance (by decide +kernel) (pa_cons (pv 1) (pa_cons (pe_bltn (v := .ty "list") (by rfl) T.list (by decide +kernel) rfl) pa_nil)))) (pw_and1 (pt_not (pt_val (pe_callB call_isi (by rfl) T.isinstance (by decide +kernel) (pa_cons (pv 0) (pa_cons (pe_bltn (v := .ty "list") (by rfl) T.list (by decide +kernel) rfl) pa_nil))))))))
      (pss_one (ps_ret pe_bl))
      pss_nil)
      (pss_cons (ps_if (PW.pt (pw_and (pt_val (pe_callB call_isi (by rfl) T.isinstance (by decide +kernel) (pa_cons (pv 1) (pa_cons (pe_bltn (v := .ty "tuple") (by rfl) T.tuple (by decide +kernel) rfl) pa_nil)))) (pw_and1 (pt_not (pt_val (pe_callB call_isi (by rfl) T.isinstance (by decide +kernel) (pa_cons (pv 0) (pa_cons (pe_bltn (v := .ty "tuple") (by rfl) T.tuple (by decide +kernel) rfl) pa_nil))))))))
      (pss_one (ps_ret pe_bl))
      pss_nil)
      (pss_cons (ps_if (pt_cmpR op_ne (pe_callB call_len_seq (by rfl) T.len PySem.boot_len (pa_cons (pv 0) pa_nil)) (pe_callB call_len_seq (by rfl) T.len PySem.boot_len (pa_cons (pv 1) pa_nil)) (nomark _))
      (pss_one (ps_ret pe_bl))
      pss_nil)
      (pss_cons (ps_for PassesOwn.never rfl (pi_range1 rfl T.range (pa_cons (pe_callB call_len_seq (by rfl) T.len PySem.boot_len (pa_cons (pv 1) pa_nil)) pa_nil)) (pg_name (i := 2) sc.nd rfl (by first | exact Or.inl rfl | exact Or.inr rfl))
      (pss_one (ps_if (pt_not (pt_val (pe_call G__law_same (hr.mono (by first | decide | omega)) rfl T._law_same.mg T._law_same.kp T._law_same.b .nil pass0 (pa_cons (pe_ix ix_seq (pv 0) (pv 2) (fun _ _ => rfl)) (pa_cons (pe_ix ix_seq (pv 1) (pv 2) (fun _ _ => rfl)) pa_nil)))))
      (pss_one (ps_ret pe_bl))
      pss_nil)))
      (pss_one (ps_ret pe_bl))))))))))), ?_⟩
      rcases he.ways with ⟨rfl, fy⟩ | ⟨m, hm, es, q, ys, rfl, rfl, hq, hl, hs, hy⟩
      · cases y with
        | non =>
          rcases hd.ways with ⟨rfl, fx⟩ | ⟨m, hm, ds, p, xs, rfl, rfl, hp, hl, hs, hx⟩
          · cases x with
            | non =>
              walk_at "go3"
              exact k _ (yes_b rfl)
            | bl b =>
              walk_at "go3"
              exact k _ (no_b fun z => by cases z)
            | int b =>
              walk_at "go3"
              exact k _ (no_b fun z => by cases z)
            | str b =>
              walk_at "go3"
              exact k _ (no_b fun z => by cases z)
            | _ => cases fx
          · walk_at "go3"
            exact k _ (no_b fun z => by cases z)
        | bl c =>
          rcases hd.ways with ⟨rfl, fx⟩ | ⟨m, hm, ds, p, xs, rfl, rfl, hp, hl, hs, hx⟩
          · cases x with
            | non =>
              walk_at "go3"
              exact k _ (no_b fun z => by cases z)
            | bl b =>
              walk_at "go3"
              exact k _ (dec_b at_eq)
            | int b =>
              walk_at "go3"
              exact k _ (no_b fun z => by cases z)
            | str b =>
              walk_at "go3"
              exact k _ (no_b fun z => by cases z)
            | _ => cases fx
          · walk_at "go3"
            exact k _ (no_b fun z => by cases z)
        | int c =>
          rcases hd.ways with ⟨rfl, fx⟩ | ⟨m, hm, ds, p, xs, rfl, rfl, hp, hl, hs, hx⟩
          · cases x with
            | non =>
              walk_at "go3"
              refine ⟨_, rfl, .non, ?_⟩
              walk_at "go3"
              exact k _ (no_b fun z => by cases z)
            | bl b =>
              walk_at "go3"
              refine ⟨_, rfl, .bl b, ?_⟩
              walk_at "go3"
              exact k _ (no_b fun z => by cases z)
            | int b =>
              walk_at "go3"
              refine ⟨_, rfl, .int b, ?_⟩
              walk_at "go3"
              exact k _ (dec_b at_eq)
            | str b =>
              walk_at "go3"
              refine ⟨_, rfl, .str b, ?_⟩
              walk_at "go3"
              exact k _ (no_b fun z => by cases z)
            | _ => cases fx
          · walk_at "go3"
            refine ⟨_, rfl, .lst hp, ?_⟩
            walk_at "go3"
            exact k _ (no_b fun z => by cases z)
        | str c =>
          rcases hd.ways with ⟨rfl, fx⟩ | ⟨m, hm, ds, p, xs, rfl, rfl, hp, hl, hs, hx⟩
          · cases x with
            | non =>
              walk_at "go3"
              exact k _ (no_b fun z => by cases z)
            | bl b =>
              walk_at "go3"
              exact k _ (no_b fun z => by cases z)
            | int b =>
              walk_at "go3"
              exact k _ (no_b fun z => by cases z)
            | str b =>
              walk_at "go3"
              exact k _ (dec_b at_eq)
            | _ => cases fx
          · walk_at "go3"
            exact k _ (no_b fun z => by cases z)
        | _ => cases fy
      · rcases hd.ways with ⟨rfl, fx⟩ | ⟨m', hm', ds, p, xs, rfl, rfl, hp, hl', hs', hx⟩
        · cases x with
          | non =>
            walk_at "go3"
            exact k _ (no_b fun z => by cases z)
          | bl b =>
            walk_at "go3"
            exact k _ (no_b fun z => by cases z)
          | int b =>
            walk_at "go3"
            exact k _ (no_b fun z => by cases z)
          | str b =>
            walk_at "go3"
            exact k _ (no_b fun z => by cases z)
          | _ => cases fx
        · have at_ : ∀ {α : Type} {zs : List α} {i : Nat}, i < zs.length → ∃ v, zs[i]? = some v := fun {α zs i} h => ⟨zs[i], List.getElem?_eq_getElem h⟩
          have mm : m' = m := by omega
          subst mm
          by_cases hlen : xs.length = ys.length
          · have hl2 : (V.int (xs.length : Int)) = V.int (ys.length : Int) := by rw [hlen]
            have fin : tSeq (tFor (iRng1 (tCons (tCB (fun xs H_1 Q => ∃ p ys, xs = [V.ref p] ∧ (SqL K H_1 p ys ∨ SqT K H_1 p ys) ∧ Q (V.int ys.length) H_1) (tCons (tVar 1) tNil)) tNil)) (gName 2)
                (tIfS (tNot (tB (tCall sp [] E0 (tCons (tOp (rIx K) (tVar 0) (tVar 2)) (tCons (tOp (rIx K) (tVar 1) (tVar 2)) tNil))))) (tRet (tC (V.bl false))) tNext)) (tRet (tC (V.bl true)))
                { nx := fun _ H' => Q .non H', rt := Q } (L2.start ["_law_told", "_law_due", "_law_k"] [.ref p, .ref q]) H := by
              refine ⟨_, rfl, q, ys, rfl, .inl (SqL.of hq), (ys.length : Int), rfl, by omega, by omega, for_range (n := ys.length) (fun i σ H' => H' = H ∧ (∀ j, j < i → ds[j]? = es[j]?) ∧ ∃ v, σ = [some (.ref p), some (.ref q), v]) ⟨rfl, fun j h => absurd h (Nat.not_lt_zero _), none, rfl⟩ ?_ ?_⟩
              · rintro i σ H1 hi ⟨rfl, hj, v, rfl⟩
                obtain ⟨y, hy'⟩ := at_ hi
                obtain ⟨x, hx'⟩ := at_ (zs := xs) (i := i) (by omega)
                obtain ⟨d1, hd1, nd⟩ := hx i x hx'
                obtain ⟨e1, he1, ne⟩ := hy i y hy'
                have go2 : ∀ (R : VK), (∀ v, v = x → R v H1) → rIx K (.ref p) (.int (0 + (i : Int))) H1 R := fun R k => by
                  rw [Int.zero_add]
                  exact .inl ⟨p, xs, i, x, rfl, rfl, SqL.of hp, atI_nat hx', k x rfl⟩
                have go4 : ∀ (R : VK), (∀ v, v = y → R v H1) → rIx K (.ref q) (.int (0 + (i : Int))) H1 R := fun R k => by
                  rw [Int.zero_add]
                  exact .inl ⟨q, ys, i, y, rfl, rfl, SqL.of hq, atI_nat hy', k y rfl⟩
                refine ⟨_, rfl, _, rfl, go2 _ fun x' ex => ⟨_, rfl, _, rfl, go4 _ fun y' ey => ?_⟩⟩
                subst ex
                subst ey
                refine hsp m' hm _ _ _ _ ⟨_, _, d1, e1, rfl, nd, ne, fun b hb => ⟨b, rfl, ?_⟩⟩
                cases b with
                | true =>
                  refine i_no rfl ?_
                  refine ⟨rfl, fun j hj' => ?_, _, rfl⟩
                  rcases Nat.lt_or_eq_of_le (Nat.le_of_lt_succ hj') with h | rfl
                  · exact hj j h
                  · rw [hd1, he1, hb.mp rfl]
                | false =>
                  refine i_yes rfl ?_
                  exact k _ (no_b fun z => by
                    cases z
                    rw [hd1] at he1
                    cases he1
                    cases hb.mpr rfl)
              · rintro σ H1 ⟨rfl, hj, v, rfl⟩
                refine k _ (yes_b ?_)
                have : ds = es := List.ext_getElem? fun j => by
                  rcases Nat.lt_or_ge j ys.length with h | h
                  · exact hj j h
                  · rw [List.getElem?_eq_none (by omega), List.getElem?_eq_none (by omega)]
                rw [this]
            walk_at "go3"
            refine i_no (by rw [decide_eq_true hl2]; rfl) ?_
            exact fin
          · walk_at "go3"
            refine i_yes (by rw [decide_eq_false (fun z => hlen (by injection z with z; omega))]; rfl) ?_
            exact k _ (no_b fun z => hlen (by cases z; omega))
theorem ok_same (T : Txt K mg a) : ∀ n, FnOk P w K mg base CX0 (n + 2) a._law_same.f a._law_same.fd ["_law_told", "_law_due"] (spSame n)
  | 0 => same_step T 0 (sp := fun _ _ _ _ => False) ⟨fun _ _ _ _ h => h.elim, fun _ _ _ _ _ _ _ _ _ _ _ _ _ h => h.elim⟩ fun _ h => by omega
  | n + 1 => same_step T (n + 1) (ok_same T n) fun m h vs H Q E q => by
    have e : m = n := by omega
    subst e
    exact q
end
end Me
set_option maxHeartbeats 8000000
namespace Me
open PySem L2


theorem many_le {tl : TE} {K : PySem.W.Frag} {te : TE} {σ : L2.St} {H : Hp} {Q : VK} {a : Addr} {k : Nat} {xs : List V} (Rl : Nat → V → Hp → Prop) (mono : ∀ i y H H', Soft H H' → Rl i y H → Rl i y H') (htl : ∀ R : VK, R (.ref a) H → tl σ H R) (ha : SqL K H a xs) (sm : xs.length < sizeLine)
    (hw : ∀ x, wipe ((wipe σ [k]).set k (some x)) [k] = wipe σ [k])
    (st : ∀ i x H1 (R : VK), xs[i]? = some x → Same H H1 → (∀ y H4, Same H1 H4 → Rl i y H4 → R y H4) → te ((wipe σ [k]).set k (some x)) H1 R)
    (kk : ∀ D ys H', H D = none → Same H H' → H' D = some (.lst ys) → ys.length = xs.length → (∀ i y, ys[i]? = some y → Rl i y H') → Q (.ref D) H') : tLc (iList K tl) (gName k) tYes te [k] σ H Q := by
  have key : ∀ D, H D = none → ∀ i x H1 (Pn : Hp → Prop), xs[i]? = some x → (Same H H1 ∧ ∃ ys, H1 D = some (.lst ys) ∧ ys.length = i ∧ ∀ i y, ys[i]? = some y → Rl i y H1) →
      (∀ H2, (Same H H2 ∧ ∃ ys, H2 D = some (.lst ys) ∧ ys.length = i + 1 ∧ ∀ i y, ys[i]? = some y → Rl i y H2) → Pn H2) →
      gName k x (wipe σ [k]) H1 fun σ2 H2 => wipe σ2 [k] = wipe σ [k] ∧ tYes σ2 H2 fun b H3 => if b = true then te σ2 H3 fun y H4 => ∃ acc, H4 D = some (.lst acc) ∧ acc.length < sizeLine ∧ Pn (upd H4 D (.lst (acc ++ [y]))) else Pn H3 := by
    rintro D nD i x H1 Pn hx ⟨s1, ys, e, hl, hr⟩ hP
    refine ⟨hw x, ?_⟩
    unfold tYes
    with_reducible refine L2.iteT ?_
    refine st i x H1 _ hx s1 fun y H4 s4 r => ?_
    have lt : i < xs.length := by
      rcases Nat.lt_or_ge i xs.length with h | h
      · exact h
      · rw [List.getElem?_eq_none h] at hx; cases hx
    have e4 := s4 _ _ e
    have so : Soft H4 (upd H4 D (.lst (ys ++ [y]))) := soft_upd e4
    refine ⟨ys, e4, by omega, hP _ ⟨?_, ys ++ [y], upd_same, by rw [List.length_append, hl]; rfl, ?_⟩⟩
    · intro b o hb
      rw [upd_ne (ne_of_none hb nD)]
      exact s4 _ _ (s1 _ _ hb)
    · intro i' y' hy
      by_cases q : i' < ys.length
      · rw [List.getElem?_append_left q] at hy
        exact mono _ _ _ _ so (mono _ _ _ _ (Same.soft s4) (hr i' y' hy))
      · rw [List.getElem?_append_right (by omega)] at hy
        have z : i' - ys.length = 0 := by
          rcases Nat.eq_zero_or_pos (i' - ys.length) with h | h
          · exact h
          · rw [List.getElem?_eq_none (by show 1 ≤ _; omega)] at hy; cases hy
        rw [z] at hy
        cases hy
        have : i' = i := by omega
        subst this
        exact mono _ _ _ _ so r
  refine htl _ ⟨a, rfl, ⟨_, ha⟩, fun D nD => ?_⟩
  refine lc_list (xs := xs) (fun i H' => Same H H' ∧ ∃ ys, H' D = some (.lst ys) ∧ ys.length = i ∧ ∀ i y, ys[i]? = some y → Rl i y H') ⟨same_new same_rfl nD, [], upd_same, rfl, fun i y h => by cases h⟩ (fun i H1 _ p => SqL.ext ha p.1) (fun i x H1 hx p => key D nD i x H1 _ hx p fun _ z => z) ?_
  rintro H1 ⟨s1, ys, e, hl, hr⟩
  exact kk D ys H1 nD s1 e hl hr

/-! ### the law's terms -/
def FlatT (H : Hp) (v : V) : Flat → Prop
  | .num l h w => ∃ p, v = .ref p ∧ H p = some (.lst [.str "number", .int l, .int h, optV w])
  | .bits m => ∃ p, v = .ref p ∧ H p = some (.lst [.str "bits", .int m])
  | .call n => ∃ p, v = .ref p ∧ H p = some (.lst [.str "call", .str n])
def SmpT (H : Hp) (v : V) : Smp → Prop
  | .flat f => FlatT H v f
  | .items f w => ∃ p y, v = .ref p ∧ H p = some (.lst [.str "items", y, optV w]) ∧ FlatT H y f
def InnT (H : Hp) (v : V) : Inn → Prop
  | .non => v = .non
  | .nothing => ∃ p, v = .ref p ∧ H p = some (.lst [.str "nothing"])
  | .smp s => SmpT H v s
def WayR (H : Hp) (v : V) (t : WayT) : Prop := ∃ p y, v = .ref p ∧ H p = some (.lst [.str t.w, .str t.n, .bl t.d, y]) ∧ InnT H y t.k
def PrtR (H : Hp) (v : V) (t : PrtT) : Prop := ∃ p y, v = .ref p ∧ H p = some (.lst [.str t.w, .str t.n, y]) ∧ InnT H y t.k
def TrmT (H : Hp) (v : V) : Trm → Prop
  | .smp s => SmpT H v s
  | .choice ws => ∃ p q xs, v = .ref p ∧ H p = some (.lst [.str "choice", .ref q]) ∧ H q = some (.lst xs) ∧ AllO WayR H xs ws
  | .row ps => ∃ p q xs, v = .ref p ∧ H p = some (.lst [.str "row", .ref q]) ∧ H q = some (.lst xs) ∧ AllO PrtR H xs ps
/-- what begins with a text stays -/
def StrKeep (H H' : Hp) : Prop := ∀ a (z : Str) xs, H a = some (.lst (.str z :: xs)) → H' a = some (.lst (.str z :: xs))
theorem Same.sk {H H' : Hp} (s : Same H H') : StrKeep H H' := fun a z xs h => s _ _ h
theorem Went.sk {p : Addr} {H H' : Hp} (S : StOk H p) (w : Went p H H') : StrKeep H H' := fun a z xs h => w.2.1 _ _ (fun e => by
  obtain ⟨L, ns, i, b, c, hp, _⟩ := S
  rw [e, hp] at h
  cases h) h
theorem FlatT.sk {H H' : Hp} {v : V} {f : Flat} (h : FlatT H v f) (e : StrKeep H H') : FlatT H' v f := by
  cases f <;> (obtain ⟨p, rfl, hp⟩ := h; exact ⟨p, rfl, e _ _ _ hp⟩)
theorem SmpT.sk {H H' : Hp} {v : V} {f : Smp} (h : SmpT H v f) (e : StrKeep H H') : SmpT H' v f := by
  cases f with
  | flat f => exact FlatT.sk (f := f) h e
  | items f w => obtain ⟨p, y, rfl, hp, hf⟩ := h; exact ⟨p, y, rfl, e _ _ _ hp, hf.sk e⟩
theorem InnT.sk {H H' : Hp} {v : V} {f : Inn} (h : InnT H v f) (e : StrKeep H H') : InnT H' v f := by
  cases f with
  | non => exact h
  | nothing => obtain ⟨p, rfl, hp⟩ := h; exact ⟨p, rfl, e _ _ _ hp⟩
  | smp f => exact SmpT.sk (f := f) h e
theorem WayR.sk {H H' : Hp} {v : V} {t : WayT} (h : WayR H v t) (e : StrKeep H H') : WayR H' v t := by
  obtain ⟨p, y, rfl, hp, hy⟩ := h
  exact ⟨p, y, rfl, e _ _ _ hp, hy.sk e⟩
theorem PrtR.sk {H H' : Hp} {v : V} {t : PrtT} (h : PrtR H v t) (e : StrKeep H H') : PrtR H' v t := by
  obtain ⟨p, y, rfl, hp, hy⟩ := h
  exact ⟨p, y, rfl, e _ _ _ hp, hy.sk e⟩
theorem TrmT.same {H H' : Hp} {v : V} {t : Trm} (h : TrmT H v t) (e : Same H H') : TrmT H' v t := by
  match v, t, h with
  | _, .smp s, h => exact SmpT.sk (f := s) h (Same.sk e)
  | _, .choice ws, ⟨p, q, xs, rfl, hp, hq, h⟩ => exact ⟨p, q, xs, rfl, e _ _ hp, e _ _ hq, h.ext fun x t r => r.sk (Same.sk e)⟩
  | _, .row ws, ⟨p, q, xs, rfl, hp, hq, h⟩ => exact ⟨p, q, xs, rfl, e _ _ hp, e _ _ hq, h.ext fun x t r => r.sk (Same.sk e)⟩
/-- a list of rows is not the reader's list -/
theorem AllO.ne {α : Type} {R : Hp → V → α → Prop} {H : Hp} {p q : Addr} {xs : List V} {ts : List α} (S : StOk H p) (hR : ∀ x t, R H x t → ∃ r, x = .ref r) (hq : H q = some (.lst xs)) (h : AllO R H xs ts) : q ≠ p := fun e => by
  obtain ⟨L, ns, i, b, c, hp, _⟩ := S
  rw [e, hp] at hq
  injection hq with hq
  injection hq with hq
  subst hq
  obtain ⟨t, _, r⟩ := h.2 1 (.int i) rfl
  obtain ⟨z, hz⟩ := hR _ _ r
  cases hz
theorem TrmT.went {p : Addr} {H H' : Hp} {v : V} {t : Trm} (h : TrmT H v t) (S : StOk H p) (w : Went p H H') : TrmT H' v t := by
  have k := Went.sk S w
  match v, t, h with
  | _, .smp s, h => exact SmpT.sk (f := s) h k
  | _, .choice ws, ⟨q, r, xs, rfl, hp, hq, h⟩ => exact ⟨q, r, xs, rfl, k _ _ _ hp, w.2.1 _ _ (AllO.ne S (fun x t ⟨p, _, e, _⟩ => ⟨p, e⟩) hq h) hq, h.ext fun x t r => r.sk k⟩
  | _, .row ws, ⟨q, r, xs, rfl, hp, hq, h⟩ => exact ⟨q, r, xs, rfl, k _ _ _ hp, w.2.1 _ _ (AllO.ne S (fun x t ⟨p, _, e, _⟩ => ⟨p, e⟩) hq h) hq, h.ext fun x t r => r.sk k⟩
/-! as nested lists -/
def Flat.nd : Flat → Nd
  | .num l h w => .lst [.at (.str "number"), .at (.int l), .at (.int h), .at (optV w)]
  | .bits m => .lst [.at (.str "bits"), .at (.int m)]
  | .call n => .lst [.at (.str "call"), .at (.str n)]
def Smp.nd : Smp → Nd
  | .flat f => f.nd
  | .items f w => .lst [.at (.str "items"), f.nd, .at (optV w)]
def Inn.nd : Inn → Nd
  | .non => .at .non
  | .nothing => .lst [.at (.str "nothing")]
  | .smp s => s.nd
def WayT.nd (t : WayT) : Nd := .lst [.at (.str t.w), .at (.str t.n), .at (.bl t.d), t.k.nd]
def PrtT.nd (t : PrtT) : Nd := .lst [.at (.str t.w), .at (.str t.n), t.k.nd]
def Trm.nd : Trm → Nd
  | .smp s => s.nd
  | .choice ws => .lst [.at (.str "choice"), .lst (ws.map WayT.nd)]
  | .row ws => .lst [.at (.str "row"), .lst (ws.map PrtT.nd)]
theorem Flat.nd_inj {f g : Flat} (h : f.nd = g.nd) : f = g := by
  cases f <;> cases g <;> simp only [Flat.nd, Nd.lst.injEq, List.cons.injEq, Nd.at.injEq, V.str.injEq, V.int.injEq, optV_inj, and_true, true_and, reduceCtorEq, and_false, false_and] at h
  · obtain ⟨rfl, rfl, rfl⟩ := h; rfl
  · rw [h]
  · first | rw [h] | (rw [h.2])
end Me
set_option maxHeartbeats 8000000
namespace Me
open PySem L2


theorem Smp.nd_inj {f g : Smp} (h : f.nd = g.nd) : f = g := by
  cases f with
  | flat f =>
    cases g with
    | flat g => rw [Flat.nd_inj h]
    | items g w => cases f <;> simp [Smp.nd, Flat.nd] at h
  | items f w =>
    cases g with
    | flat g => cases g <;> simp [Smp.nd, Flat.nd] at h
    | items g w' =>
      simp only [Smp.nd, Nd.lst.injEq, List.cons.injEq, Nd.at.injEq, optV_inj, and_true, true_and] at h
      rw [Flat.nd_inj h.1, h.2]
theorem Inn.nd_inj {f g : Inn} (h : f.nd = g.nd) : f = g := by
  cases f with
  | non =>
    cases g with
    | non => rfl
    | nothing => cases h
    | smp s => cases s with
      | flat f => cases f <;> cases h
      | items f w => cases h
  | nothing =>
    cases g with
    | non => cases h
    | nothing => rfl
    | smp s => cases s with
      | flat f => cases f <;> simp [Inn.nd, Smp.nd, Flat.nd] at h
      | items f w => simp [Inn.nd, Smp.nd, Flat.nd] at h
  | smp s =>
    cases g with
    | non => cases s with
      | flat f => cases f <;> cases h
      | items f w => cases h
    | nothing => cases s with
      | flat f => cases f <;> simp [Inn.nd, Smp.nd, Flat.nd] at h
      | items f w => simp [Inn.nd, Smp.nd, Flat.nd] at h
    | smp s' => rw [Smp.nd_inj h]
theorem WayT.nd_inj {f g : WayT} (h : f.nd = g.nd) : f = g := by
  obtain ⟨w1, n1, d1, k1⟩ := f
  obtain ⟨w2, n2, d2, k2⟩ := g
  simp only [WayT.nd, Nd.lst.injEq, List.cons.injEq, Nd.at.injEq, V.str.injEq, V.bl.injEq, and_true] at h
  obtain ⟨rfl, rfl, rfl, h⟩ := h
  rw [Inn.nd_inj h]
theorem PrtT.nd_inj {f g : PrtT} (h : f.nd = g.nd) : f = g := by
  obtain ⟨w1, n1, k1⟩ := f
  obtain ⟨w2, n2, k2⟩ := g
  simp only [PrtT.nd, Nd.lst.injEq, List.cons.injEq, Nd.at.injEq, V.str.injEq, and_true] at h
  obtain ⟨rfl, rfl, h⟩ := h
  rw [Inn.nd_inj h]
theorem map_inj' {α β : Type} {f : α → β} (hf : ∀ x y, f x = f y → x = y) : ∀ {xs ys : List α}, xs.map f = ys.map f → xs = ys
  | [], [], _ => rfl
  | [], _ :: _, h => by simp at h
  | _ :: _, [], h => by simp at h
  | x :: xs, y :: ys, h => by
    simp only [List.map_cons, List.cons.injEq] at h
    rw [hf _ _ h.1, map_inj' hf h.2]
theorem Trm.nd_inj {f g : Trm} (h : f.nd = g.nd) : f = g := by
  cases f with
  | smp s =>
    cases g with
    | smp s' => rw [Smp.nd_inj h]
    | choice ws => cases s with
      | flat f => cases f <;> simp [Trm.nd, Smp.nd, Flat.nd] at h
      | items f w => simp [Trm.nd, Smp.nd, Flat.nd] at h
    | row ws => cases s with
      | flat f => cases f <;> simp [Trm.nd, Smp.nd, Flat.nd] at h
      | items f w => simp [Trm.nd, Smp.nd, Flat.nd] at h
  | choice ws =>
    cases g with
    | smp s => cases s with
      | flat f => cases f <;> simp [Trm.nd, Smp.nd, Flat.nd] at h
      | items f w => simp [Trm.nd, Smp.nd, Flat.nd] at h
    | choice ws' =>
      simp only [Trm.nd, Nd.lst.injEq, List.cons.injEq, and_true, true_and] at h
      rw [map_inj' (fun x y => WayT.nd_inj) h]
    | row ws' =>
      simp [Trm.nd] at h
      exact absurd h.1 (by decide)
  | row ws =>
    cases g with
    | smp s => cases s with
      | flat f => cases f <;> simp [Trm.nd, Smp.nd, Flat.nd] at h
      | items f w => simp [Trm.nd, Smp.nd, Flat.nd] at h
    | choice ws' =>
      simp [Trm.nd] at h
      exact absurd h.1 (by decide)
    | row ws' =>
      simp only [Trm.nd, Nd.lst.injEq, List.cons.injEq, and_true, true_and] at h
      rw [map_inj' (fun x y => PrtT.nd_inj) h]
theorem Trm.nd_iff {f g : Trm} : f.nd = g.nd ↔ f = g := ⟨Trm.nd_inj, fun h => by rw [h]⟩
/-! the lists on the heap read so -/
inductive Ns2 (H : Hp) (n : Nat) : List V → List Nd → Prop where
  | nil : Ns2 H n [] []
  | cons {v : V} {d : Nd} {vs : List V} {ds : List Nd} (h : Nst H n v d) (t : Ns2 H n vs ds) : Ns2 H n (v :: vs) (d :: ds)
theorem Ns2.all {H : Hp} {n : Nat} {vs : List V} {ds : List Nd} (h : Ns2 H n vs ds) : vs.length = ds.length ∧ ∀ (i : Nat) x, vs[i]? = some x → ∃ e, ds[i]? = some e ∧ Nst H n x e := by
  induction h with
  | nil => exact ⟨rfl, fun i x h => by simp at h⟩
  | cons h t ih =>
    refine ⟨by simp [ih.1], fun i x hx => ?_⟩
    cases i with
    | zero => simp only [List.getElem?_cons_zero, Option.some.injEq] at hx; subst hx; exact ⟨_, rfl, h⟩
    | succ i => exact ih.2 i x hx
theorem nst_lst {H : Hp} {n : Nat} {p : Addr} {vs : List V} {ds : List Nd} (hp : H p = some (.lst vs)) (h : Ns2 H n vs ds) (l : vs.length ≤ 1000) : Nst H (n + 1) (.ref p) (.lst ds) := .inr ⟨ds, p, vs, rfl, rfl, hp, h.all.1, l, h.all.2⟩
theorem nst_at {H : Hp} {n : Nat} {v : V} (h : flatV v = true) : Nst H n v (.at v) := by
  cases n with
  | zero => exact ⟨rfl, h⟩
  | succ n => exact .inl ⟨rfl, h⟩
theorem nst_mono {H : Hp} : ∀ {n m : Nat} {v : V} {d : Nd}, n ≤ m → Nst H n v d → Nst H m v d
  | 0, m, v, d, _, ⟨e, f⟩ => by rw [e]; exact nst_at f
  | n + 1, 0, _, _, l, _ => by omega
  | n + 1, m + 1, v, d, l, h => by
    rcases h with ⟨e, f⟩ | ⟨ds, p, xs, e1, e2, hp, h1, h2, h3⟩
    · rw [e]; exact nst_at f
    · refine .inr ⟨ds, p, xs, e1, e2, hp, h1, h2, fun i x hx => ?_⟩
      obtain ⟨e, he, q⟩ := h3 i x hx
      exact ⟨e, he, nst_mono (by omega) q⟩
theorem flat_optV (o : Option Int) : flatV (optV o) = true := by cases o <;> rfl
theorem FlatT.nst {H : Hp} {v : V} {f : Flat} (h : FlatT H v f) : Nst H 1 v f.nd := by
  cases f <;> (obtain ⟨p, rfl, hp⟩ := h)
  · exact nst_lst hp (.cons (nst_at rfl) (.cons (nst_at rfl) (.cons (nst_at rfl) (.cons (nst_at (flat_optV _)) .nil)))) (by simp)
  · exact nst_lst hp (.cons (nst_at rfl) (.cons (nst_at rfl) .nil)) (by simp)
  · exact nst_lst hp (.cons (nst_at rfl) (.cons (nst_at rfl) .nil)) (by simp)
theorem SmpT.nst {H : Hp} {v : V} {f : Smp} (h : SmpT H v f) : Nst H 2 v f.nd := by
  cases f with
  | flat f => exact nst_mono (by decide) (FlatT.nst (f := f) h)
  | items f w =>
    obtain ⟨p, y, rfl, hp, hf⟩ := h
    exact nst_lst hp (.cons (nst_at rfl) (.cons hf.nst (.cons (nst_at (flat_optV _)) .nil))) (by simp)
theorem InnT.nst {H : Hp} {v : V} {f : Inn} (h : InnT H v f) : Nst H 2 v f.nd := by
  cases f with
  | non => cases h; exact nst_at rfl
  | nothing =>
    obtain ⟨p, rfl, hp⟩ := h
    exact nst_lst hp (.cons (nst_at rfl) .nil) (by simp)
  | smp f => exact SmpT.nst (f := f) h
theorem WayR.nst {H : Hp} {v : V} {t : WayT} (h : WayR H v t) : Nst H 3 v t.nd := by
  obtain ⟨p, y, rfl, hp, hy⟩ := h
  exact nst_lst hp (.cons (nst_at rfl) (.cons (nst_at rfl) (.cons (nst_at rfl) (.cons hy.nst .nil)))) (by simp)
theorem PrtR.nst {H : Hp} {v : V} {t : PrtT} (h : PrtR H v t) : Nst H 3 v t.nd := by
  obtain ⟨p, y, rfl, hp, hy⟩ := h
  exact nst_lst hp (.cons (nst_at rfl) (.cons (nst_at rfl) (.cons hy.nst .nil))) (by simp)
theorem AllO.nst {α : Type} {R : Hp → V → α → Prop} {g : α → Nd} {n : Nat} {H : Hp} {p : Addr} {xs : List V} {ts : List α} (hR : ∀ x t, R H x t → Nst H n x (g t)) (hp : H p = some (.lst xs)) (h : AllO R H xs ts) (l : ts.length ≤ 1000) : Nst H (n + 1) (.ref p) (.lst (ts.map g)) := by
  refine .inr ⟨_, p, xs, rfl, rfl, hp, by rw [List.length_map]; exact h.1, by rw [h.1]; exact l, fun i x hx => ?_⟩
  obtain ⟨t, ht, r⟩ := h.2 i x hx
  exact ⟨g t, by rw [List.getElem?_map, ht]; rfl, hR _ _ r⟩
def Trm.small : Trm → Prop
  | .smp _ => True
  | .choice ws => ws.length ≤ 12
  | .row ps => ps.length ≤ 8
theorem TrmT.nst {H : Hp} {v : V} {t : Trm} (h : TrmT H v t) (sm : t.small) : Nst H 5 v t.nd := by
  match v, t, h with
  | _, .smp s, h => exact nst_mono (by decide) (SmpT.nst (f := s) h)
  | _, .choice ws, ⟨p, q, xs, rfl, hp, hq, h⟩ =>
    have l : ws.length ≤ 12 := sm
    exact nst_lst hp (.cons (nst_at rfl) (.cons (AllO.nst (fun x t r => WayR.nst r) hq h (by omega)) .nil)) (by simp)
  | _, .row ws, ⟨p, q, xs, rfl, hp, hq, h⟩ =>
    have l : ws.length ≤ 8 := sm
    exact nst_lst hp (.cons (nst_at rfl) (.cons (AllO.nst (fun x t r => PrtR.nst r) hq h (by omega)) .nil)) (by simp)
end Me
set_option maxHeartbeats 8000000
namespace Me
open PySem L2


end Me
local macro_rules | `(tactic| walk_at "go3") => `(tactic| repeat (first | walk_at "go1" | (with_reducible refine And.intro (a := L2.V.non = L2.V.non) rfl ?_) | ((with_reducible refine' Me.i_yes ?_ ?_); (first | rfl | exact decide_eq_true rfl)) | ((with_reducible refine' Me.i_no ?_ ?_); (first | rfl | exact decide_eq_false (fun z => absurd (L2.V.str.inj z) (by decide)) | (simp; done))) | with_reducible refine Me.i_make ?_))
namespace Me
open PySem L2
def FlatV : Flat → Prop
  | .num l h w => numBad (.int l) (.int h) (optV w) = none
  | .bits m => bitBad (.int m) = none
  | .call n => nameS n = true
def SmpV : Smp → Prop
  | .flat f => FlatV f
  | .items f w => FlatV f ∧ (w = none ∨ withinV (optV w) 1 3 = true)
def InnV : Inn → Prop
  | .smp s => SmpV s
  | _ => True
theorem th_optV {H : Hp} (o : Option Int) : Th H (optV o) := by
  cases o with
  | none => exact .non
  | some i => exact .int i
theorem chk_ok {w n : Str} (hw : WordS w) (hn : nameS n = true) : chkBad (.str w) (.str n) = none := by
  have e : wordV (.str w) = true := by
    show ((decide (1 ≤ w.length) && decide (w.length ≤ 8)) && w.cps.toList.all bitB) = true
    rw [decide_eq_true hw.l0, decide_eq_true hw.l8]
    exact hw.b
  unfold chkBad
  rw [if_pos e, if_pos (show nameV (.str n) = true from hn)]
theorem name_len {n : Str} (h : nameS n = true) : n.length ≤ 8 := by
  unfold nameS at h
  simp only [Bool.and_eq_true, decide_eq_true_eq] at h
  exact h.1.2
theorem sh_of {z : Str} (h : z.length ≤ 8) : Sh (.str z) := fun y e => by injection e with e; rw [← e]; omega

def nev : Sp := fun _ _ _ _ => False
section
variable {P : Program} {w : World} {K : PySem.W.Frag} {mg : Str → Option Value} {base : Heap} {a : Ad}
theorem ok_nev {n : Nat} {f : Addr} {fd : FuncData} {ps : List Str} : FnOk P w K mg base CX0 n f fd ps nev := ⟨fun _ _ _ _ h => h.elim, fun _ _ _ _ _ _ _ _ _ _ _ _ _ h => h.elim⟩
def spKindF (a : Ad) : Sp := fun vs H Q _ => ∃ x f, vs = [x] ∧ FlatT H x f ∧ FlatV f ∧ ∀ v H', Same H H' → FlatO a H' v f → Q v H'
theorem ok_kindF (T : Txt K mg a) : FnOk P w K mg base CX0 6 a._law_kind.f a._law_kind.fd ["_law_term"] (spKindF a) := by
  obtain ⟨SW, hSW⟩ : ∃ S : Sp, S = nev := ⟨_, rfl⟩
  obtain ⟨SP, hSP⟩ : ∃ S : Sp, S = nev := ⟨_, rfl⟩
  have G__law_kind : FnOk P w K mg base CX0 1 a._law_kind.f a._law_kind.fd ["_law_term"] nev := ok_nev
  have G__law_way : FnOk P w K mg base CX0 1 a._law_way.f a._law_way.fd ["_law_way_here"] SW := by rw [hSW]; exact ok_nev
  have G__law_place : FnOk P w K mg base CX0 1 a._law_place.f a._law_place.fd ["_law_part"] SP := by rw [hSP]; exact ok_nev
  have GI1 : FnOk P w K mg base (L2.CX P w) 3 (a.I 1).f (a.I 1).fd ["self", "low", "high", "width"] (spNum a) := ok_num T
  have GI2 : FnOk P w K mg base (L2.CX P w) 3 (a.I 2).f (a.I 2).fd ["self", "many"] (spBit a) := ok_bit T
  have GI3 : FnOk P w K mg base (L2.CX P w) 3 (a.I 3).f (a.I 3).fd ["self", "name"] (spCal a) := ok_cal T
  have GI4 : FnOk P w K mg base (L2.CX P w) 3 (a.I 4).f (a.I 4).fd ["self", "item", "width"] (spItm a) := ok_itm T
  have GI9 : FnOk P w K mg base (L2.CX P w) 3 (a.I 9).f (a.I 9).fd ["self", "ways"] (spChoiceG a) := ok_ChoiceG T
  have GI10 : FnOk P w K mg base (L2.CX P w) 3 (a.I 10).f (a.I 10).fd ["self", "parts"] (spRowG a) := ok_RowG T
  have sc : FnScope ["_law_term", "_law_way_here", "_law_part"] ["_law_term"] (defScope (top 40)) := ⟨rfl, rfl, rfl, by decide +kernel, rfl, by decide +kernel, by decide +kernel⟩
  refine T._law_kind.ok sc (fun vs H Q E h => ?_) (fun cdv A outer s H vs Q E hr h => ?_)
  · obtain ⟨x, f, rfl, _⟩ := h
    rfl
  · obtain ⟨x, f, rfl, hf, fv, k⟩ := h
    refine ⟨_, (pss_cons (ps_if (pt_cmpR op_isN (pv 0) pe_non (nomark _))
      (pss_one (ps_ret pe_non))
      pss_nil)
      (pss_cons (ps_if (pt_cmpR op_eq (pe_ix ix_list (pv 0) pe_int (fun _ _ => rfl)) pe_str (nomark _))
      (pss_one (ps_ret (pe_mk0 (T.kc 0 (by decide)).mks T.ini0 (T.kc 0 (by decide)).kp (T.kc 0 (by decide)).gl)))
      pss_nil)
      (pss_cons (ps_if (pt_cmpR op_eq (pe_ix ix_list (pv 0) pe_int (fun _ _ => rfl)) pe_str (nomark _))
      (pss_cons (ps_if (pt_cmpR op_isN (pe_ix ix_list (pv 0) pe_int (fun _ _ => rfl)) pe_non (nomark _))
      (pss_one (ps_ret (pe_make T.mk1 GI1 (hr.mono (by decide)) rfl (T.kc 1 (by decide)).gl T.Id1 (.cons (show RelV V.non Value.none from rfl) .nil) passF (pa_cons (pe_ix ix_list (pv 0) pe_int (fun _ _ => rfl)) (pa_cons (pe_ix ix_list (pv 0) pe_int (fun _ _ => rfl)) pa_nil)))))
      pss_nil)
      (pss_one (ps_ret (pe_make T.mk1 GI1 (hr.mono (by decide)) rfl (T.kc 1 (by decide)).gl T.Ib1 .nil passF (pa_cons (pe_ix ix_list (pv 0) pe_int (fun _ _ => rfl)) (pa_cons (pe_ix ix_list (pv 0) pe_int (fun _ _ => rfl)) (pa_cons (pe_ix ix_list (pv 0) pe_int (fun _ _ => rfl)) pa_nil)))))))
      pss_nil)
      (pss_cons (ps_if (pt_cmpR op_eq (pe_ix ix_list (pv 0) pe_int (fun _ _ => rfl)) pe_str (nomark _))
      (pss_one (ps_ret (pe_make T.mk2 GI2 (hr.mono (by decide)) rfl (T.kc 2 (by decide)).gl T.Ib2 .nil passF (pa_cons (pe_ix ix_list (pv 0) pe_int (fun _ _ => rfl)) pa_nil))))
      pss_nil)
      (pss_cons (ps_if (pt_cmpR op_eq (pe_ix ix_list (pv 0) pe_int (fun _ _ => rfl)) pe_str (nomark _))
      (pss_one (ps_ret (pe_make T.mk3 GI3 (hr.mono (by decide)) rfl (T.kc 3 (by decide)).gl T.Ib3 .nil passF (pa_cons (pe_ix ix_list (pv 0) pe_int (fun _ _ => rfl)) pa_nil))))
      pss_nil)
      (pss_cons (ps_if (pt_cmpR op_eq (pe_ix ix_list (pv 0) pe_int (fun _ _ => rfl)) pe_str (nomark _))
      (pss_cons (ps_if (pt_cmpR op_isN (pe_ix ix_list (pv 0) pe_int (fun _ _ => rfl)) pe_non (nomark _))
      (pss_one (ps_ret (pe_make T.mk4 GI4 (hr.mono (by decide)) rfl (T.kc 4 (by decide)).gl T.Id4 (.cons (show RelV V.non Value.none from rfl) .nil) passF (pa_cons (pe_call G__law_kind (hr.mono (by first | decide | omega)) rfl T._law_kind.mg T._law_kind.kp T._law_kind.b .nil pass0 (pa_cons (pe_ix ix_list (pv 0) pe_int (fun _ _ => rfl)) pa_nil)) pa_nil))))
      pss_nil)
      (pss_one (ps_ret (pe_make T.mk4 GI4 (hr.mono (by decide)) rfl (T.kc 4 (by decide)).gl T.Ib4 .nil passF (pa_cons (pe_call G__law_kind (hr.mono (by first | decide | omega)) rfl T._law_kind.mg T._law_kind.kp T._law_kind.b .nil pass0 (pa_cons (pe_ix ix_list (pv 0) pe_int (fun _ _ => rfl)) pa_nil)) (pa_cons (pe_ix ix_list (pv 0) pe_int (fun _ _ => rfl)) pa_nil))))))
      pss_nil)
      (pss_cons (ps_if (pt_cmpR op_eq (pe_ix ix_list (pv 0) pe_int (fun _ _ => rfl)) pe_str (nomark _))
      (pss_one (ps_ret (pe_make T.mk9 GI9 (hr.mono (by decide)) rfl (T.kc 9 (by decide)).gl T.Ib9 .nil passF (pa_cons (pe_lc (te := tCall SW [] E0 (tCons (tVar 1) tNil)) (own := [("_law_way_here", 1)]) (g := gName 1) (by rfl) sc.nd (pi_list (pe_ix ix_list (pv 0) pe_int (fun _ _ => rfl))) (blkOk_by (own := [("_law_way_here", 1)]) (N := ["_law_term", "_law_way_here", "_law_part"]) (sc := defScope (top 40)) (by decide +kernel)) (fun _ _ _ _ _ => pg_name (i := 1) sc.nd rfl (Or.inl rfl)) (fun _ _ _ _ _ => pts_nil) (fun _ _ _ _ _ => (by exact (pe_call G__law_way (hr.mono (by first | decide | omega)) rfl T._law_way.mg T._law_way.kp T._law_way.b .nil pass0 (pa_cons (pv 1) pa_nil))))) pa_nil))))
      pss_nil)
      (pss_one (ps_ret (pe_make T.mk10 GI10 (hr.mono (by decide)) rfl (T.kc 10 (by decide)).gl T.Ib10 .nil passF (pa_cons (pe_lc (te := tCall SP [] E0 (tCons (tVar 2) tNil)) (own := [("_law_part", 2)]) (g := gName 2) (by rfl) sc.nd (pi_list (pe_ix ix_list (pv 0) pe_int (fun _ _ => rfl))) (blkOk_by (own := [("_law_part", 2)]) (N := ["_law_term", "_law_way_here", "_law_part"]) (sc := defScope (top 40)) (by decide +kernel)) (fun _ _ _ _ _ => pg_name (i := 2) sc.nd rfl (Or.inl rfl)) (fun _ _ _ _ _ => pts_nil) (fun _ _ _ _ _ => (by exact (pe_call G__law_place (hr.mono (by first | decide | omega)) rfl T._law_place.mg T._law_place.kp T._law_place.b .nil pass0 (pa_cons (pv 2) pa_nil))))) pa_nil))))))))))), ?_⟩
    cases f with
    | num l h wv =>
      obtain ⟨p, rfl, hp⟩ := hf
      cases wv with
      | none =>
        have hp : H p = some (.lst [.str "number", .int l, .int h, .non]) := hp
        walk_at "go3"
        intro x dx nx ndx ne
        exact ⟨x, dx, _, _, _, rfl, upd_same, .int _, .int _, .non, fun e1 H1 kp hx => ⟨rfl, k _ _ (kp.same nx ndx) ⟨x, dx, rfl, hx⟩⟩, fun z e' => by rw [show numBad (.int l) (.int h) .non = none from fv] at e'; cases e'⟩
      | some i =>
        have hp : H p = some (.lst [.str "number", .int l, .int h, .int i]) := hp
        walk_at "go3"
        intro x dx nx ndx ne
        exact ⟨x, dx, _, _, _, rfl, upd_same, .int _, .int _, .int _, fun e1 H1 kp hx => ⟨rfl, k _ _ (kp.same nx ndx) ⟨x, dx, rfl, hx⟩⟩, fun z e' => by rw [show numBad (.int l) (.int h) (.int i) = none from fv] at e'; cases e'⟩
    | bits m =>
      obtain ⟨p, rfl, hp⟩ := hf
      walk_at "go3"
      intro x dx nx ndx ne
      exact ⟨x, dx, _, rfl, upd_same, .int _, fun e1 H1 kp hx => ⟨rfl, k _ _ (kp.same nx ndx) ⟨x, dx, rfl, hx⟩⟩, fun z e' => by rw [show bitBad (.int m) = none from fv] at e'; cases e'⟩
    | call n =>
      obtain ⟨p, rfl, hp⟩ := hf
      walk_at "go3"
      intro x dx nx ndx ne
      exact ⟨x, dx, _, rfl, upd_same, .str _, sh_of (name_len fv), fun e1 H1 kp hx => ⟨rfl, k _ _ (kp.same nx ndx) ⟨x, dx, rfl, hx⟩⟩, fun z e' => by rw [show callBad (.str n) = none from if_pos fv] at e'; cases e'⟩
end
end Me
set_option maxHeartbeats 8000000
namespace Me
open PySem L2


end Me
local macro_rules | `(tactic| walk_at "go3") => `(tactic| repeat (first | walk_at "go1" | (with_reducible refine And.intro (a := L2.V.non = L2.V.non) rfl ?_) | ((with_reducible refine' Me.i_yes ?_ ?_); (first | rfl | exact decide_eq_true rfl)) | ((with_reducible refine' Me.i_no ?_ ?_); (first | rfl | exact decide_eq_false (fun z => absurd (L2.V.str.inj z) (by decide)) | (simp; done))) | with_reducible refine Me.i_make ?_))
namespace Me
open PySem L2
def IK (H H' : Hp) : Prop := ∀ p C dx fs, H p = some (.ins C dx fs) → H' p = some (.ins C dx fs)
theorem Soft.ik {H H' : Hp} (s : Soft H H') : IK H H' := fun p C dx fs h => s.ins h fun _ z => by cases z
theorem FlatO.ik {a : Ad} {H H' : Hp} {v : V} {f : Flat} (h : FlatO a H v f) (e : IK H H') : FlatO a H' v f := by
  cases f <;> (obtain ⟨p, dx, rfl, hp⟩ := h; exact ⟨p, dx, rfl, e _ _ _ _ hp⟩)
theorem SmpO.ik {a : Ad} {H H' : Hp} {v : V} {f : Smp} (h : SmpO a H v f) (e : IK H H') : SmpO a H' v f := by
  cases f with
  | flat f => exact FlatO.ik (f := f) h e
  | items f w => obtain ⟨p, dx, y, rfl, hp, hf⟩ := h; exact ⟨p, dx, y, rfl, e _ _ _ _ hp, hf.ik e⟩
theorem InnO.ik {a : Ad} {H H' : Hp} {v : V} {f : Inn} (h : InnO a H v f) (e : IK H H') : InnO a H' v f := by
  cases f with
  | non => exact h
  | nothing => obtain ⟨p, dx, rfl, hp⟩ := h; exact ⟨p, dx, rfl, e _ _ _ _ hp⟩
  | smp f => exact SmpO.ik (f := f) h e
theorem WayO.ik {a : Ad} {H H' : Hp} {v : V} {t : WayT} (h : WayO a H v t) (e : IK H H') : WayO a H' v t := by
  obtain ⟨p, dx, y, rfl, hp, hy⟩ := h
  exact ⟨p, dx, y, rfl, e _ _ _ _ hp, hy.ik e⟩
theorem PrtO.ik {a : Ad} {H H' : Hp} {v : V} {t : PrtT} (h : PrtO a H v t) (e : IK H H') : PrtO a H' v t := by
  rcases h with ⟨z, p, dx, y, rfl, hp, hy⟩ | ⟨z, p, dx, y, rfl, hp, hy⟩
  · exact .inl ⟨z, p, dx, y, rfl, e _ _ _ _ hp, hy.ik e⟩
  · exact .inr ⟨z, p, dx, y, rfl, e _ _ _ _ hp, hy.ik e⟩
def WayV (t : WayT) : Prop := WordS t.w ∧ nameS t.n = true ∧ InnV t.k ∧ (t.d = false → t.k ≠ .non)
def PrtV (t : PrtT) : Prop := nameS t.n = true ∧ InnV t.k ∧ t.k ≠ .nothing ∧ (t.w = ("" : Str) → t.k ≠ .non) ∧ (t.w ≠ ("" : Str) → WordS t.w)
def TrmV : Trm → Prop
  | .smp s => SmpV s
  | .choice ws => (1 ≤ ws.length ∧ ws.length ≤ 12) ∧ (∀ t ∈ ws, WayV t) ∧ (∃ t ∈ ws, t.d = false) ∧ (ws.map (·.n)).Nodup ∧ Apart (ws.map (·.w))
  | .row ps => (1 ≤ ps.length ∧ ps.length ≤ 8) ∧ (∀ t ∈ ps, PrtV t) ∧ (∃ t, ps.getLast? = some t ∧ t.w = ("" : Str)) ∧ (ps.map (·.n)).Nodup
theorem TrmV.small {t : Trm} (h : TrmV t) : t.small := by
  cases t with
  | smp s => trivial
  | choice ws => exact h.1.2
  | row ps => exact h.1.2
theorem itemBad_ok (f : Flat) {w : Option Int} (h : w = none ∨ withinV (optV w) 1 3 = true) : itemBad (Inn.smp (.flat f)).ix (optV w) = none := by
  unfold itemBad
  rw [if_pos (by cases f <;> rfl), if_pos]
  rcases h with rfl | h
  · exact .inl rfl
  · exact .inr h
theorem ix_simple {s : Smp} : isK (Inn.smp s).ix [1, 2, 4, 3] = true := by
  cases s with
  | flat f => cases f <;> rfl
  | items f w => rfl
section
variable {P : Program} {w : World} {K : PySem.W.Frag} {mg : Str → Option Value} {base : Heap} {a : Ad}
theorem fn_or {n : Nat} {f : Addr} {fd : FuncData} {ps : List Str} {s1 s2 : Sp} (h1 : FnOk P w K mg base CX0 n f fd ps s1) (h2 : FnOk P w K mg base CX0 n f fd ps s2) : FnOk P w K mg base CX0 n f fd ps (fun vs H Q E => s1 vs H Q E ∨ s2 vs H Q E) :=
  ⟨fun _ _ _ _ h => h.elim (h1.len _ _ _ _) (h2.len _ _ _ _), fun A st s H ar us vs Q E r e hv rv h => h.elim (h1.run A st s H ar us vs Q E r e hv rv) (h2.run A st s H ar us vs Q E r e hv rv)⟩
theorem fn_imp {n : Nat} {f : Addr} {fd : FuncData} {ps : List Str} {s1 s2 : Sp} (h1 : FnOk P w K mg base CX0 n f fd ps s1) (i : ∀ vs H Q E, s2 vs H Q E → s1 vs H Q E) : FnOk P w K mg base CX0 n f fd ps s2 :=
  ⟨fun _ _ _ _ h => h1.len _ _ _ _ (i _ _ _ _ h), fun A st s H ar us vs Q E r e hv rv h => h1.run A st s H ar us vs Q E r e hv rv (i _ _ _ _ h)⟩
theorem fn_up {n m : Nat} {f : Addr} {fd : FuncData} {ps : List Str} {s1 : Sp} (h1 : FnOk P w K mg base CX0 n f fd ps s1) (l : n ≤ m) : FnOk P w K mg base CX0 m f fd ps s1 :=
  ⟨h1.len, fun A st s H ar us vs Q E r e hv rv h => h1.run A st s H ar us vs Q E (r.mono l) e hv rv h⟩
def spKindX (a : Ad) : Sp := fun vs H Q _ => (vs = [.non] ∧ ∀ H', Same H H' → Q .non H') ∨ (∃ p, vs = [.ref p] ∧ H p = some (.lst [.str "nothing"]) ∧ ∀ v H', Same H H' → InnO a H' v .nothing → Q v H') ∨
  ∃ x f wv, vs = [x] ∧ SmpT H x (.items f wv) ∧ SmpV (.items f wv) ∧ ∀ v H', Same H H' → SmpO a H' v (.items f wv) → Q v H'
theorem ok_kindX (T : Txt K mg a) : FnOk P w K mg base CX0 7 a._law_kind.f a._law_kind.fd ["_law_term"] (spKindX a) := by
  obtain ⟨SW, hSW⟩ : ∃ S : Sp, S = nev := ⟨_, rfl⟩
  obtain ⟨SP, hSP⟩ : ∃ S : Sp, S = nev := ⟨_, rfl⟩
  have G__law_kind : FnOk P w K mg base CX0 6 a._law_kind.f a._law_kind.fd ["_law_term"] (spKindF a) := ok_kindF T
  have G__law_way : FnOk P w K mg base CX0 1 a._law_way.f a._law_way.fd ["_law_way_here"] SW := by rw [hSW]; exact ok_nev
  have G__law_place : FnOk P w K mg base CX0 1 a._law_place.f a._law_place.fd ["_law_part"] SP := by rw [hSP]; exact ok_nev
  have GI1 : FnOk P w K mg base (L2.CX P w) 3 (a.I 1).f (a.I 1).fd ["self", "low", "high", "width"] (spNum a) := ok_num T
  have GI2 : FnOk P w K mg base (L2.CX P w) 3 (a.I 2).f (a.I 2).fd ["self", "many"] (spBit a) := ok_bit T
  have GI3 : FnOk P w K mg base (L2.CX P w) 3 (a.I 3).f (a.I 3).fd ["self", "name"] (spCal a) := ok_cal T
  have GI4 : FnOk P w K mg base (L2.CX P w) 3 (a.I 4).f (a.I 4).fd ["self", "item", "width"] (spItm a) := ok_itm T
  have GI9 : FnOk P w K mg base (L2.CX P w) 3 (a.I 9).f (a.I 9).fd ["self", "ways"] (spChoiceG a) := ok_ChoiceG T
  have GI10 : FnOk P w K mg base (L2.CX P w) 3 (a.I 10).f (a.I 10).fd ["self", "parts"] (spRowG a) := ok_RowG T
  have sc : FnScope ["_law_term", "_law_way_here", "_law_part"] ["_law_term"] (defScope (top 40)) := ⟨rfl, rfl, rfl, by decide +kernel, rfl, by decide +kernel, by decide +kernel⟩
  refine T._law_kind.ok sc (fun vs H Q E h => ?_) (fun cdv A outer s H vs Q E hr h => ?_)
  · rcases h with ⟨rfl, _⟩ | ⟨p, rfl, _⟩ | ⟨x, f, wv, rfl, _⟩ <;> rfl
  · rcases h with ⟨rfl, k⟩ | ⟨p, rfl, hp, k⟩ | ⟨x, f, wv, rfl, hx, hv, k⟩
    · refine ⟨_, (pss_cons (ps_if (pt_cmpR op_isN (pv 0) pe_non (nomark _))
      (pss_one (ps_ret pe_non))
      pss_nil)
      (pss_cons (ps_if (pt_cmpR op_eq (pe_ix ix_list (pv 0) pe_int (fun _ _ => rfl)) pe_str (nomark _))
      (pss_one (ps_ret (pe_mk0 (T.kc 0 (by decide)).mks T.ini0 (T.kc 0 (by decide)).kp (T.kc 0 (by decide)).gl)))
      pss_nil)
      (pss_cons (ps_if (pt_cmpR op_eq (pe_ix ix_list (pv 0) pe_int (fun _ _ => rfl)) pe_str (nomark _))
      (pss_cons (ps_if (pt_cmpR op_isN (pe_ix ix_list (pv 0) pe_int (fun _ _ => rfl)) pe_non (nomark _))
      (pss_one (ps_ret (pe_make T.mk1 GI1 (hr.mono (by decide)) rfl (T.kc 1 (by decide)).gl T.Id1 (.cons (show RelV V.non Value.none from rfl) .nil) passF (pa_cons (pe_ix ix_list (pv 0) pe_int (fun _ _ => rfl)) (pa_cons (pe_ix ix_list (pv 0) pe_int (fun _ _ => rfl)) pa_nil)))))
      pss_nil)
      (pss_one (ps_ret (pe_make T.mk1 GI1 (hr.mono (by decide)) rfl (T.kc 1 (by decide)).gl T.Ib1 .nil passF (pa_cons (pe_ix ix_list (pv 0) pe_int (fun _ _ => rfl)) (pa_cons (pe_ix ix_list (pv 0) pe_int (fun _ _ => rfl)) (pa_cons (pe_ix ix_list (pv 0) pe_int (fun _ _ => rfl)) pa_nil)))))))
      pss_nil)
      (pss_cons (ps_if (pt_cmpR op_eq (pe_ix ix_list (pv 0) pe_int (fun _ _ => rfl)) pe_str (nomark _))
      (pss_one (ps_ret (pe_make T.mk2 GI2 (hr.mono (by decide)) rfl (T.kc 2 (by decide)).gl T.Ib2 .nil passF (pa_cons (pe_ix ix_list (pv 0) pe_int (fun _ _ => rfl)) pa_nil))))
      pss_nil)
      (pss_cons (ps_if (pt_cmpR op_eq (pe_ix ix_list (pv 0) pe_int (fun _ _ => rfl)) pe_str (nomark _))
      (pss_one (ps_ret (pe_make T.mk3 GI3 (hr.mono (by decide)) rfl (T.kc 3 (by decide)).gl T.Ib3 .nil passF (pa_cons (pe_ix ix_list (pv 0) pe_int (fun _ _ => rfl)) pa_nil))))
      pss_nil)
      (pss_cons (ps_if (pt_cmpR op_eq (pe_ix ix_list (pv 0) pe_int (fun _ _ => rfl)) pe_str (nomark _))
      (pss_cons (ps_if (pt_cmpR op_isN (pe_ix ix_list (pv 0) pe_int (fun _ _ => rfl)) pe_non (nomark _))
      (pss_one (ps_ret (pe_make T.mk4 GI4 (hr.mono (by decide)) rfl (T.kc 4 (by decide)).gl T.Id4 (.cons (show RelV V.non Value.none from rfl) .nil) passF (pa_cons (pe_call G__law_kind (hr.mono (by first | decide | omega)) rfl T._law_kind.mg T._law_kind.kp T._law_kind.b .nil pass0 (pa_cons (pe_ix ix_list (pv 0) pe_int (fun _ _ => rfl)) pa_nil)) pa_nil))))
      pss_nil)
      (pss_one (ps_ret (pe_make T.mk4 GI4 (hr.mono (by decide)) rfl (T.kc 4 (by decide)).gl T.Ib4 .nil passF (pa_cons (pe_call G__law_kind (hr.mono (by first | decide | omega)) rfl T._law_kind.mg T._law_kind.kp T._law_kind.b .nil pass0 (pa_cons (pe_ix ix_list (pv 0) pe_int (fun _ _ => rfl)) pa_nil)) (pa_cons (pe_ix ix_list (pv 0) pe_int (fun _ _ => rfl)) pa_nil))))))
      pss_nil)
      (pss_cons (ps_if (pt_cmpR op_eq (pe_ix ix_list (pv 0) pe_int (fun _ _ => rfl)) pe_str (nomark _))
      (pss_one (ps_ret (pe_make T.mk9 GI9 (hr.mono (by decide)) rfl (T.kc 9 (by decide)).gl T.Ib9 .nil passF (pa_cons (pe_lc (te := tCall SW [] E0 (tCons (tVar 1) tNil)) (own := [("_law_way_here", 1)]) (g := gName 1) (by rfl) sc.nd (pi_list (pe_ix ix_list (pv 0) pe_int (fun _ _ => rfl))) (blkOk_by (own := [("_law_way_here", 1)]) (N := ["_law_term", "_law_way_here", "_law_part"]) (sc := defScope (top 40)) (by decide +kernel)) (fun _ _ _ _ _ => pg_name (i := 1) sc.nd rfl (Or.inl rfl)) (fun _ _ _ _ _ => pts_nil) (fun _ _ _ _ _ => (by exact (pe_call G__law_way (hr.mono (by first | decide | omega)) rfl T._law_way.mg T._law_way.kp T._law_way.b .nil pass0 (pa_cons (pv 1) pa_nil))))) pa_nil))))
      pss_nil)
      (pss_one (ps_ret (pe_make T.mk10 GI10 (hr.mono (by decide)) rfl (T.kc 10 (by decide)).gl T.Ib10 .nil passF (pa_cons (pe_lc (te := tCall SP [] E0 (tCons (tVar 2) tNil)) (own := [("_law_part", 2)]) (g := gName 2) (by rfl) sc.nd (pi_list (pe_ix ix_list (pv 0) pe_int (fun _ _ => rfl))) (blkOk_by (own := [("_law_part", 2)]) (N := ["_law_term", "_law_way_here", "_law_part"]) (sc := defScope (top 40)) (by decide +kernel)) (fun _ _ _ _ _ => pg_name (i := 2) sc.nd rfl (Or.inl rfl)) (fun _ _ _ _ _ => pts_nil) (fun _ _ _ _ _ => (by exact (pe_call G__law_place (hr.mono (by first | decide | omega)) rfl T._law_place.mg T._law_place.kp T._law_place.b .nil pass0 (pa_cons (pv 2) pa_nil))))) pa_nil))))))))))), ?_⟩
      walk_at "go3"
      exact k _ same_rfl
    · refine ⟨_, (pss_cons (ps_if (pt_cmpR op_isN (pv 0) pe_non (nomark _))
      (pss_one (ps_ret pe_non))
      pss_nil)
      (pss_cons (ps_if (pt_cmpR op_eq (pe_ix ix_list (pv 0) pe_int (fun _ _ => rfl)) pe_str (nomark _))
      (pss_one (ps_ret (pe_mk0 (T.kc 0 (by decide)).mks T.ini0 (T.kc 0 (by decide)).kp (T.kc 0 (by decide)).gl)))
      pss_nil)
      (pss_cons (ps_if (pt_cmpR op_eq (pe_ix ix_list (pv 0) pe_int (fun _ _ => rfl)) pe_str (nomark _))
      (pss_cons (ps_if (pt_cmpR op_isN (pe_ix ix_list (pv 0) pe_int (fun _ _ => rfl)) pe_non (nomark _))
      (pss_one (ps_ret (pe_make T.mk1 GI1 (hr.mono (by decide)) rfl (T.kc 1 (by decide)).gl T.Id1 (.cons (show RelV V.non Value.none from rfl) .nil) passF (pa_cons (pe_ix ix_list (pv 0) pe_int (fun _ _ => rfl)) (pa_cons (pe_ix ix_list (pv 0) pe_int (fun _ _ => rfl)) pa_nil)))))
      pss_nil)
      (pss_one (ps_ret (pe_make T.mk1 GI1 (hr.mono (by decide)) rfl (T.kc 1 (by decide)).gl T.Ib1 .nil passF (pa_cons (pe_ix ix_list (pv 0) pe_int (fun _ _ => rfl)) (pa_cons (pe_ix ix_list (pv 0) pe_int (fun _ _ => rfl)) (pa_cons (pe_ix ix_list (pv 0) pe_int (fun _ _ => rfl)) pa_nil)))))))
      pss_nil)
      (pss_cons (ps_if (pt_cmpR op_eq (pe_ix ix_list (pv 0) pe_int (fun _ _ => rfl)) pe_str (nomark _))
      (pss_one (ps_ret (pe_make T.mk2 GI2 (hr.mono (by decide)) rfl (T.kc 2 (by decide)).gl T.Ib2 .nil passF (pa_cons (pe_ix ix_list (pv 0) pe_int (fun _ _ => rfl)) pa_nil))))
      pss_nil)
      (pss_cons (ps_if (pt_cmpR op_eq (pe_ix ix_list (pv 0) pe_int (fun _ _ => rfl)) pe_str (nomark _))
      (pss_one (ps_ret (pe_make T.mk3 GI3 (hr.mono (by decide)) rfl (T.kc 3 (by decide)).gl T.Ib3 .nil passF (pa_cons (pe_ix ix_list (pv 0) pe_int (fun _ _ => rfl)) pa_nil))))
      pss_nil)
      (pss_cons (ps_if (pt_cmpR op_eq (pe_ix ix_list (pv 0) pe_int (fun _ _ => rfl)) pe_str (nomark _))
      (pss_cons (ps_if (pt_cmpR op_isN (pe_ix ix_list (pv 0) pe_int (fun _ _ => rfl)) pe_non (nomark _))
      (pss_one (ps_ret (pe_make T.mk4 GI4 (hr.mono (by decide)) rfl (T.kc 4 (by decide)).gl T.Id4 (.cons (show RelV V.non Value.none from rfl) .nil) passF (pa_cons (pe_call G__law_kind (hr.mono (by first | decide | omega)) rfl T._law_kind.mg T._law_kind.kp T._law_kind.b .nil pass0 (pa_cons (pe_ix ix_list (pv 0) pe_int (fun _ _ => rfl)) pa_nil)) pa_nil))))
      pss_nil)
      (pss_one (ps_ret (pe_make T.mk4 GI4 (hr.mono (by decide)) rfl (T.kc 4 (by decide)).gl T.Ib4 .nil passF (pa_cons (pe_call G__law_kind (hr.mono (by first | decide | omega)) rfl T._law_kind.mg T._law_kind.kp T._law_kind.b .nil pass0 (pa_cons (pe_ix ix_list (pv 0) pe_int (fun _ _ => rfl)) pa_nil)) (pa_cons (pe_ix ix_list (pv 0) pe_int (fun _ _ => rfl)) pa_nil))))))
      pss_nil)
      (pss_cons (ps_if (pt_cmpR op_eq (pe_ix ix_list (pv 0) pe_int (fun _ _ => rfl)) pe_str (nomark _))
      (pss_one (ps_ret (pe_make T.mk9 GI9 (hr.mono (by decide)) rfl (T.kc 9 (by decide)).gl T.Ib9 .nil passF (pa_cons (pe_lc (te := tCall SW [] E0 (tCons (tVar 1) tNil)) (own := [("_law_way_here", 1)]) (g := gName 1) (by rfl) sc.nd (pi_list (pe_ix ix_list (pv 0) pe_int (fun _ _ => rfl))) (blkOk_by (own := [("_law_way_here", 1)]) (N := ["_law_term", "_law_way_here", "_law_part"]) (sc := defScope (top 40)) (by decide +kernel)) (fun _ _ _ _ _ => pg_name (i := 1) sc.nd rfl (Or.inl rfl)) (fun _ _ _ _ _ => pts_nil) (fun _ _ _ _ _ => (by exact (pe_call G__law_way (hr.mono (by first | decide | omega)) rfl T._law_way.mg T._law_way.kp T._law_way.b .nil pass0 (pa_cons (pv 1) pa_nil))))) pa_nil))))
      pss_nil)
      (pss_one (ps_ret (pe_make T.mk10 GI10 (hr.mono (by decide)) rfl (T.kc 10 (by decide)).gl T.Ib10 .nil passF (pa_cons (pe_lc (te := tCall SP [] E0 (tCons (tVar 2) tNil)) (own := [("_law_part", 2)]) (g := gName 2) (by rfl) sc.nd (pi_list (pe_ix ix_list (pv 0) pe_int (fun _ _ => rfl))) (blkOk_by (own := [("_law_part", 2)]) (N := ["_law_term", "_law_way_here", "_law_part"]) (sc := defScope (top 40)) (by decide +kernel)) (fun _ _ _ _ _ => pg_name (i := 2) sc.nd rfl (Or.inl rfl)) (fun _ _ _ _ _ => pts_nil) (fun _ _ _ _ _ => (by exact (pe_call G__law_place (hr.mono (by first | decide | omega)) rfl T._law_place.mg T._law_place.kp T._law_place.b .nil pass0 (pa_cons (pv 2) pa_nil))))) pa_nil))))))))))), ?_⟩
      walk_at "go3"
      intro x dx nx ndx ne
      exact k _ _ (same2 nx ndx) ⟨x, dx, rfl, upd_same⟩
    · refine ⟨_, (pss_cons (ps_if (pt_cmpR op_isN (pv 0) pe_non (nomark _))
      (pss_one (ps_ret pe_non))
      pss_nil)
      (pss_cons (ps_if (pt_cmpR op_eq (pe_ix ix_list (pv 0) pe_int (fun _ _ => rfl)) pe_str (nomark _))
      (pss_one (ps_ret (pe_mk0 (T.kc 0 (by decide)).mks T.ini0 (T.kc 0 (by decide)).kp (T.kc 0 (by decide)).gl)))
      pss_nil)
      (pss_cons (ps_if (pt_cmpR op_eq (pe_ix ix_list (pv 0) pe_int (fun _ _ => rfl)) pe_str (nomark _))
      (pss_cons (ps_if (pt_cmpR op_isN (pe_ix ix_list (pv 0) pe_int (fun _ _ => rfl)) pe_non (nomark _))
      (pss_one (ps_ret (pe_make T.mk1 GI1 (hr.mono (by decide)) rfl (T.kc 1 (by decide)).gl T.Id1 (.cons (show RelV V.non Value.none from rfl) .nil) passF (pa_cons (pe_ix ix_list (pv 0) pe_int (fun _ _ => rfl)) (pa_cons (pe_ix ix_list (pv 0) pe_int (fun _ _ => rfl)) pa_nil)))))
      pss_nil)
      (pss_one (ps_ret (pe_make T.mk1 GI1 (hr.mono (by decide)) rfl (T.kc 1 (by decide)).gl T.Ib1 .nil passF (pa_cons (pe_ix ix_list (pv 0) pe_int (fun _ _ => rfl)) (pa_cons (pe_ix ix_list (pv 0) pe_int (fun _ _ => rfl)) (pa_cons (pe_ix ix_list (pv 0) pe_int (fun _ _ => rfl)) pa_nil)))))))
      pss_nil)
      (pss_cons (ps_if (pt_cmpR op_eq (pe_ix ix_list (pv 0) pe_int (fun _ _ => rfl)) pe_str (nomark _))
      (pss_one (ps_ret (pe_make T.mk2 GI2 (hr.mono (by decide)) rfl (T.kc 2 (by decide)).gl T.Ib2 .nil passF (pa_cons (pe_ix ix_list (pv 0) pe_int (fun _ _ => rfl)) pa_nil))))
      pss_nil)
      (pss_cons (ps_if (pt_cmpR op_eq (pe_ix ix_list (pv 0) pe_int (fun _ _ => rfl)) pe_str (nomark _))
      (pss_one (ps_ret (pe_make T.mk3 GI3 (hr.mono (by decide)) rfl (T.kc 3 (by decide)).gl T.Ib3 .nil passF (pa_cons (pe_ix ix_list (pv 0) pe_int (fun _ _ => rfl)) pa_nil))))
      pss_nil)
      (pss_cons (ps_if (pt_cmpR op_eq (pe_ix ix_list (pv 0) pe_int (fun _ _ => rfl)) pe_str (nomark _))
      (pss_cons (ps_if (pt_cmpR op_isN (pe_ix ix_list (pv 0) pe_int (fun _ _ => rfl)) pe_non (nomark _))
      (pss_one (ps_ret (pe_make T.mk4 GI4 (hr.mono (by decide)) rfl (T.kc 4 (by decide)).gl T.Id4 (.cons (show RelV V.non Value.none from rfl) .nil) passF (pa_cons (pe_call G__law_kind (hr.mono (by first | decide | omega)) rfl T._law_kind.mg T._law_kind.kp T._law_kind.b .nil pass0 (pa_cons (pe_ix ix_list (pv 0) pe_int (fun _ _ => rfl)) pa_nil)) pa_nil))))
      pss_nil)
      (pss_one (ps_ret (pe_make T.mk4 GI4 (hr.mono (by decide)) rfl (T.kc 4 (by decide)).gl T.Ib4 .nil passF (pa_cons (pe_call G__law_kind (hr.mono (by first | decide | omega)) rfl T._law_kind.mg T._law_kind.kp T._law_kind.b .nil pass0 (pa_cons (pe_ix ix_list (pv 0) pe_int (fun _ _ => rfl)) pa_nil)) (pa_cons (pe_ix ix_list (pv 0) pe_int (fun _ _ => rfl)) pa_nil))))))
      pss_nil)
      (pss_cons (ps_if (pt_cmpR op_eq (pe_ix ix_list (pv 0) pe_int (fun _ _ => rfl)) pe_str (nomark _))
      (pss_one (ps_ret (pe_make T.mk9 GI9 (hr.mono (by decide)) rfl (T.kc 9 (by decide)).gl T.Ib9 .nil passF (pa_cons (pe_lc (te := tCall SW [] E0 (tCons (tVar 1) tNil)) (own := [("_law_way_here", 1)]) (g := gName 1) (by rfl) sc.nd (pi_list (pe_ix ix_list (pv 0) pe_int (fun _ _ => rfl))) (blkOk_by (own := [("_law_way_here", 1)]) (N := ["_law_term", "_law_way_here", "_law_part"]) (sc := defScope (top 40)) (by decide +kernel)) (fun _ _ _ _ _ => pg_name (i := 1) sc.nd rfl (Or.inl rfl)) (fun _ _ _ _ _ => pts_nil) (fun _ _ _ _ _ => (by exact (pe_call G__law_way (hr.mono (by first | decide | omega)) rfl T._law_way.mg T._law_way.kp T._law_way.b .nil pass0 (pa_cons (pv 1) pa_nil))))) pa_nil))))
      pss_nil)
      (pss_one (ps_ret (pe_make T.mk10 GI10 (hr.mono (by decide)) rfl (T.kc 10 (by decide)).gl T.Ib10 .nil passF (pa_cons (pe_lc (te := tCall SP [] E0 (tCons (tVar 2) tNil)) (own := [("_law_part", 2)]) (g := gName 2) (by rfl) sc.nd (pi_list (pe_ix ix_list (pv 0) pe_int (fun _ _ => rfl))) (blkOk_by (own := [("_law_part", 2)]) (N := ["_law_term", "_law_way_here", "_law_part"]) (sc := defScope (top 40)) (by decide +kernel)) (fun _ _ _ _ _ => pg_name (i := 2) sc.nd rfl (Or.inl rfl)) (fun _ _ _ _ _ => pts_nil) (fun _ _ _ _ _ => (by exact (pe_call G__law_place (hr.mono (by first | decide | omega)) rfl T._law_place.mg T._law_place.kp T._law_place.b .nil pass0 (pa_cons (pv 2) pa_nil))))) pa_nil))))))))))), ?_⟩
      obtain ⟨p, y, rfl, hp, hf⟩ := hx
      obtain ⟨fv, wok⟩ := hv
      have ib := itemBad_ok f wok
      cases wv with
      | none =>
        have hp : H p = some (.lst [.str "items", y, .non]) := hp
        walk_at "go3"
        refine ⟨y, f, rfl, hf, fv, fun v H1 s1 ho => ?_⟩
        walk_at "go3"
        intro x dx nx ndx ne
        have ho' : InnO a H1 v (.smp (.flat f)) := ho
        refine ⟨x, dx, v, .non, _, rfl, upd_same, (ho'.ext (same2 nx ndx)).itm, .non, fun e1 H2 kp hx => ⟨rfl, k _ _ (s1.trans (kp.same nx ndx)) ⟨x, dx, v, rfl, hx, ho.ext (kp.same nx ndx)⟩⟩, fun z e' => ?_⟩
        rw [show itemBad (Inn.smp (.flat f)).ix .non = none from ib] at e'
        cases e'
      | some i =>
        have hp : H p = some (.lst [.str "items", y, .int i]) := hp
        walk_at "go3"
        refine ⟨y, f, rfl, hf, fv, fun v H1 s1 ho => ?_⟩
        have hp1 := s1 _ _ hp
        walk_at "go3"
        intro x dx nx ndx ne
        have ho' : InnO a H1 v (.smp (.flat f)) := ho
        refine ⟨x, dx, v, .int i, _, rfl, upd_same, (ho'.ext (same2 nx ndx)).itm, .int i, fun e1 H2 kp hx => ⟨rfl, k _ _ (s1.trans (kp.same nx ndx)) ⟨x, dx, v, rfl, hx, ho.ext (kp.same nx ndx)⟩⟩, fun z e' => ?_⟩
        rw [show itemBad (Inn.smp (.flat f)).ix (.int i) = none from ib] at e'
        cases e'
def spKindI (a : Ad) : Sp := fun vs H Q _ => ∃ x t, vs = [x] ∧ InnT H x t ∧ InnV t ∧ ∀ v H', Same H H' → InnO a H' v t → Q v H'
theorem ok_kindI (T : Txt K mg a) : FnOk P w K mg base CX0 7 a._law_kind.f a._law_kind.fd ["_law_term"] (spKindI a) := fn_imp (fn_or (fn_up (ok_kindF T) (by decide)) (ok_kindX T)) fun vs H Q E ⟨x, t, hv, hx, tv, k⟩ => by
  subst hv
  match x, t, hx, tv, k with
  | _, .non, rfl, _, k => exact .inr (.inl ⟨rfl, fun H' s => k _ _ s rfl⟩)
  | _, .nothing, ⟨p, rfl, hp⟩, _, k => exact .inr (.inr (.inl ⟨p, rfl, hp, k⟩))
  | _, .smp (.flat f), hx, tv, k => exact .inl ⟨_, f, rfl, hx, tv, k⟩
  | _, .smp (.items f wv), hx, tv, k => exact .inr (.inr (.inr ⟨_, f, wv, rfl, hx, tv, k⟩))
def spWayL (a : Ad) : Sp := fun vs H Q _ => ∃ x t, vs = [x] ∧ WayR H x t ∧ WayV t ∧ ∀ v H', Same H H' → WayO a H' v t → Q v H'
theorem ok_wayL (T : Txt K mg a) : FnOk P w K mg base CX0 8 a._law_way.f a._law_way.fd ["_law_way_here"] (spWayL a) := by
  have G__law_kind : FnOk P w K mg base CX0 7 a._law_kind.f a._law_kind.fd ["_law_term"] (spKindI a) := ok_kindI T
  have GI5 : FnOk P w K mg base (L2.CX P w) 4 (a.I 5).f (a.I 5).fd ["self", "word", "name", "kind"] (spWay a) := ok_Way T
  have GI6 : FnOk P w K mg base (L2.CX P w) 4 (a.I 6).f (a.I 6).fd ["self", "word", "name", "kind"] (spDoor a) := ok_Door T
  have sc : FnScope ["_law_way_here"] ["_law_way_here"] (defScope (top 41)) := ⟨rfl, rfl, rfl, by decide +kernel, rfl, by decide +kernel, by decide +kernel⟩
  refine T._law_way.ok sc (fun vs H Q E h => ?_) (fun cdv A outer s H vs Q E hr h => ?_)
  · obtain ⟨x, t, rfl, _⟩ := h
    rfl
  · obtain ⟨x, ⟨wd, nm, d, t⟩, rfl, ⟨p, y, rfl, hp, hy⟩, ⟨hw, hn, hv, hd⟩, k⟩ := h
    refine ⟨_, (pss_cons (ps_if (pt_val (pe_ix ix_list (pv 0) pe_int (fun _ _ => rfl)))
      (pss_one (ps_ret (pe_make T.mk6 GI6 (hr.mono (by decide)) rfl (T.kc 6 (by decide)).gl T.Ib6 .nil passF (pa_cons (pe_ix ix_list (pv 0) pe_int (fun _ _ => rfl)) (pa_cons (pe_ix ix_list (pv 0) pe_int (fun _ _ => rfl)) (pa_cons (pe_call G__law_kind (hr.mono (by first | decide | omega)) rfl T._law_kind.mg T._law_kind.kp T._law_kind.b .nil pass0 (pa_cons (pe_ix ix_list (pv 0) pe_int (fun _ _ => rfl)) pa_nil)) pa_nil))))))
      pss_nil)
      (pss_one (ps_ret (pe_make T.mk5 GI5 (hr.mono (by decide)) rfl (T.kc 5 (by decide)).gl T.Ib5 .nil passF (pa_cons (pe_ix ix_list (pv 0) pe_int (fun _ _ => rfl)) (pa_cons (pe_ix ix_list (pv 0) pe_int (fun _ _ => rfl)) (pa_cons (pe_call G__law_kind (hr.mono (by first | decide | omega)) rfl T._law_kind.mg T._law_kind.kp T._law_kind.b .nil pass0 (pa_cons (pe_ix ix_list (pv 0) pe_int (fun _ _ => rfl)) pa_nil)) pa_nil))))))), ?_⟩
    have shw := sh_of hw.l8
    have shn := sh_of (name_len hn)
    have ck := chk_ok hw hn
    dsimp only at hp hy hw hn hv hd shw shn ck
    have ixs : isK t.ix [1, 2, 4, 3] = true ∨ t.ix = some 0 ∨ t = .non := by
      cases t with
      | non => exact .inr (.inr rfl)
      | nothing => exact .inr (.inl rfl)
      | smp s => exact .inl ix_simple
    cases d with
    | true =>
      walk_at "go3"
      refine ⟨y, t, rfl, hy, hv, fun v H1 s1 ho => ?_⟩
      walk_at "go3"
      intro x dx nx ndx ne
      refine ⟨x, dx, _, _, v, t.ix, rfl, upd_same, .str _, shw, .str _, shn, (ho.ext (same2 nx ndx)).itm, fun e1 H2 kp hx => ⟨rfl, k _ _ (s1.trans (kp.same nx ndx)) ⟨x, dx, v, rfl, hx, ho.ext (kp.same nx ndx)⟩⟩, fun z e' => ?_⟩
      have : doorBad (.str wd) (.str nm) v t.ix = none := by
        unfold doorBad
        rw [ck]
        refine if_pos ?_
        rcases ixs with h | h | rfl
        · exact .inr (.inl h)
        · exact .inr (.inr h)
        · exact .inl ho
      rw [this] at e'
      cases e'
    | false =>
      walk_at "go3"
      refine ⟨y, t, rfl, hy, hv, fun v H1 s1 ho => ?_⟩
      walk_at "go3"
      intro x dx nx ndx ne
      refine ⟨x, dx, _, _, v, t.ix, rfl, upd_same, .str _, shw, .str _, shn, (ho.ext (same2 nx ndx)).itm, fun e1 H2 kp hx => ⟨rfl, k _ _ (s1.trans (kp.same nx ndx)) ⟨x, dx, v, rfl, hx, ho.ext (kp.same nx ndx)⟩⟩, fun z e' => ?_⟩
      have : wayBad (.str wd) (.str nm) t.ix = none := by
        unfold wayBad
        rw [ck]
        refine if_pos ?_
        rcases ixs with h | h | h
        · exact .inl h
        · exact .inr h
        · exact absurd h (hd rfl)
      rw [this] at e'
      cases e'
def spPrtL (a : Ad) : Sp := fun vs H Q _ => ∃ x t, vs = [x] ∧ PrtR H x t ∧ PrtV t ∧ ∀ v H', Same H H' → PrtO a H' v t → Q v H'
theorem ok_prtL (T : Txt K mg a) : FnOk P w K mg base CX0 8 a._law_place.f a._law_place.fd ["_law_part"] (spPrtL a) := by
  have G__law_kind : FnOk P w K mg base CX0 7 a._law_kind.f a._law_kind.fd ["_law_term"] (spKindI a) := ok_kindI T
  have GI7 : FnOk P w K mg base (L2.CX P w) 4 (a.I 7).f (a.I 7).fd ["self", "name", "kind"] (spPart a) := ok_Part T
  have GI8 : FnOk P w K mg base (L2.CX P w) 4 (a.I 8).f (a.I 8).fd ["self", "word", "name", "kind"] (spRoom a) := ok_Room T
  have sc : FnScope ["_law_part"] ["_law_part"] (defScope (top 42)) := ⟨rfl, rfl, rfl, by decide +kernel, rfl, by decide +kernel, by decide +kernel⟩
  refine T._law_place.ok sc (fun vs H Q E h => ?_) (fun cdv A outer s H vs Q E hr h => ?_)
  · obtain ⟨x, t, rfl, _⟩ := h
    rfl
  · obtain ⟨x, ⟨wd, nm, t⟩, rfl, ⟨p, y, rfl, hp, hy⟩, ⟨hn, hv, hno, h1, h2⟩, k⟩ := h
    refine ⟨_, (pss_cons (ps_if (pt_cmpR op_eq (pe_ix ix_list (pv 0) pe_int (fun _ _ => rfl)) pe_str (nomark _))
      (pss_one (ps_ret (pe_make T.mk7 GI7 (hr.mono (by decide)) rfl (T.kc 7 (by decide)).gl T.Ib7 .nil passF (pa_cons (pe_ix ix_list (pv 0) pe_int (fun _ _ => rfl)) (pa_cons (pe_call G__law_kind (hr.mono (by first | decide | omega)) rfl T._law_kind.mg T._law_kind.kp T._law_kind.b .nil pass0 (pa_cons (pe_ix ix_list (pv 0) pe_int (fun _ _ => rfl)) pa_nil)) pa_nil)))))
      pss_nil)
      (pss_one (ps_ret (pe_make T.mk8 GI8 (hr.mono (by decide)) rfl (T.kc 8 (by decide)).gl T.Ib8 .nil passF (pa_cons (pe_ix ix_list (pv 0) pe_int (fun _ _ => rfl)) (pa_cons (pe_ix ix_list (pv 0) pe_int (fun _ _ => rfl)) (pa_cons (pe_call G__law_kind (hr.mono (by first | decide | omega)) rfl T._law_kind.mg T._law_kind.kp T._law_kind.b .nil pass0 (pa_cons (pe_ix ix_list (pv 0) pe_int (fun _ _ => rfl)) pa_nil)) pa_nil))))))), ?_⟩
    have shn := sh_of (name_len hn)
    dsimp only at hp hy hn hv hno h1 h2 shn
    have ixs : isK t.ix [1, 2, 4, 3] = true ∨ t = .non := by
      cases t with
      | non => exact .inr rfl
      | nothing => exact absurd rfl hno
      | smp s => exact .inl ix_simple
    by_cases h0 : wd = ("" : Str)
    · subst h0
      walk_at "go3"
      refine ⟨y, t, rfl, hy, hv, fun v H1 s1 ho => ?_⟩
      walk_at "go3"
      intro x dx nx ndx ne
      refine ⟨x, dx, _, v, t.ix, rfl, upd_same, .str _, shn, (ho.ext (same2 nx ndx)).itm, fun e1 H2 kp hx => ⟨rfl, k _ _ (s1.trans (kp.same nx ndx)) (.inl ⟨rfl, x, dx, v, rfl, hx, ho.ext (kp.same nx ndx)⟩)⟩, fun z e' => ?_⟩
      have : partBad (.str nm) t.ix = none := by
        unfold partBad
        rw [if_pos (show nameV (.str nm) = true from hn)]
        refine if_pos ?_
        rcases ixs with h | h
        · exact h
        · exact absurd h (h1 rfl)
      rw [this] at e'
      cases e'
    · have hw := h2 h0
      have shw := sh_of hw.l8
      have ck := chk_ok hw hn
      walk_at "go"
      refine i_no (decide_eq_false fun z => h0 (V.str.inj z)) ?_
      walk_at "go3"
      refine ⟨y, t, rfl, hy, hv, fun v H1 s1 ho => ?_⟩
      walk_at "go3"
      intro x dx nx ndx ne
      refine ⟨x, dx, _, _, v, t.ix, rfl, upd_same, .str _, shw, .str _, shn, (ho.ext (same2 nx ndx)).itm, fun e1 H2 kp hx => ⟨rfl, k _ _ (s1.trans (kp.same nx ndx)) (.inr ⟨h0, x, dx, v, rfl, hx, ho.ext (kp.same nx ndx)⟩)⟩, fun z e' => ?_⟩
      have : roomBad (.str wd) (.str nm) v t.ix = none := by
        unfold roomBad
        rw [ck]
        refine if_pos ?_
        rcases ixs with h | rfl
        · exact .inr h
        · exact .inl ho
      rw [this] at e'
      cases e'
end
end Me
set_option maxHeartbeats 8000000
namespace Me
open PySem L2


end Me
local macro_rules | `(tactic| walk_at "go3") => `(tactic| repeat (first | walk_at "go1" | (with_reducible refine And.intro (a := L2.V.non = L2.V.non) rfl ?_) | ((with_reducible refine' Me.i_yes ?_ ?_); (first | rfl | exact decide_eq_true rfl)) | ((with_reducible refine' Me.i_no ?_ ?_); (first | rfl | exact decide_eq_false (fun z => absurd (L2.V.str.inj z) (by decide)) | (simp; done))) | with_reducible refine Me.i_make ?_))
namespace Me
open PySem L2
def elW (v : V) (t : WayT) : El := ⟨v, some (if t.d = true then 6 else 5), t.w, t.n⟩
def elP (v : V) (t : PrtT) : El := ⟨v, some (if t.w = ("" : Str) then 7 else 8), t.w, t.n⟩
theorem zw_map {α β γ : Type} {f : V → α → γ} {g : γ → β} {h : α → β} (e : ∀ v t, g (f v t) = h t) : ∀ {xs : List V} {ts : List α}, xs.length = ts.length → (List.zipWith f xs ts).map g = ts.map h
  | [], [], _ => rfl
  | x :: xs, t :: ts, l => by
    simp only [List.zipWith_cons_cons, List.map_cons, e, zw_map e (Nat.succ.inj l)]
  | [], _ :: _, l => by cases l
  | _ :: _, [], l => by cases l
theorem zw_fst {α γ : Type} {f : V → α → γ} {g : γ → V} (e : ∀ v t, g (f v t) = v) : ∀ {xs : List V} {ts : List α}, xs.length = ts.length → (List.zipWith f xs ts).map g = xs
  | [], [], _ => rfl
  | x :: xs, t :: ts, l => by
    simp only [List.zipWith_cons_cons, List.map_cons, e, zw_fst e (Nat.succ.inj l)]
  | [], _ :: _, l => by cases l
  | _ :: _, [], l => by cases l
theorem zw_mem {α γ : Type} {f : V → α → γ} {xs : List V} {ts : List α} {e : γ} (h : e ∈ List.zipWith f xs ts) : ∃ (i : Nat) (v : V) (t : α), xs[i]? = some v ∧ ts[i]? = some t ∧ e = f v t := by
  obtain ⟨i, hi⟩ := List.getElem?_of_mem h
  rw [List.getElem?_zipWith] at hi
  cases hx : xs[i]? with
  | none => rw [hx] at hi; cases hi
  | some v =>
    cases ht : ts[i]? with
    | none => rw [hx, ht] at hi; cases hi
    | some t => rw [hx, ht] at hi; cases hi; exact ⟨i, v, t, hx, ht, rfl⟩
theorem zw_of {α γ : Type} {f : V → α → γ} {xs : List V} {ts : List α} (l : xs.length = ts.length) {t : α} {i : Nat} (ht : ts[i]? = some t) : ∃ v, xs[i]? = some v ∧ (List.zipWith f xs ts)[i]? = some (f v t) := by
  have hi : i < ts.length := by
    rcases Nat.lt_or_ge i ts.length with h | h
    · exact h
    · rw [List.getElem?_eq_none h] at ht; cases ht
  have hx : xs[i]? = some xs[i] := List.getElem?_eq_getElem (by omega)
  exact ⟨_, hx, by rw [List.getElem?_zipWith, hx, ht]⟩
theorem WayO.el {a : Ad} {H : Hp} {v : V} {t : WayT} (h : WayO a H v t) : ElAt a H (elW v t) := by
  obtain ⟨wd, nm, d, k⟩ := t
  obtain ⟨p, dx, y, rfl, hp, hy⟩ := h
  cases d with
  | true => exact ⟨.ins (i := 6) (by decide) hp, fun _ => ⟨p, 6, dx, y, rfl, by decide, rfl, hp⟩⟩
  | false => exact ⟨.ins (i := 5) (by decide) hp, fun _ => ⟨p, 5, dx, y, rfl, by decide, rfl, hp⟩⟩
theorem PrtO.el {a : Ad} {H : Hp} {v : V} {t : PrtT} (h : PrtO a H v t) : ElAt a H (elP v t) := by
  obtain ⟨wd, nm, k⟩ := t
  rcases h with ⟨z, p, dx, y, rfl, hp, hy⟩ | ⟨z, p, dx, y, rfl, hp, hy⟩
  · have e : (elP (.ref p) ⟨wd, nm, k⟩).k = some 7 := by show some (if wd = ("" : Str) then 7 else 8) = _; rw [if_pos z]
    refine ⟨by rw [e]; exact .ins (by decide) hp, fun _ => ⟨p, 7, dx, y, rfl, by decide, e, ?_⟩⟩
    unfold ElFs; rw [if_pos e]; exact hp
  · have e : (elP (.ref p) ⟨wd, nm, k⟩).k = some 8 := by show some (if wd = ("" : Str) then 7 else 8) = _; rw [if_neg z]
    refine ⟨by rw [e]; exact .ins (by decide) hp, fun _ => ⟨p, 8, dx, y, rfl, by decide, e, ?_⟩⟩
    unfold ElFs; rw [if_neg (by rw [e]; intro z; cases z)]; exact hp
theorem ways_ok {ws : List WayT} {xs : List V} (l : xs.length = ws.length) (h : TrmV (.choice ws)) : waysP (List.zipWith elW xs ws) := by
  obtain ⟨⟨l1, l2⟩, hv, ⟨t, ht, hd⟩, nd, ap⟩ := h
  refine ⟨by rw [List.length_zipWith]; omega, fun e he => ?_, ?_, by rw [zw_map (f := elW) (h := (·.n)) (fun _ _ => rfl) l]; exact nd, by rw [zw_map (f := elW) (h := (·.w)) (fun _ _ => rfl) l]; exact ap⟩
  · obtain ⟨i, v, t, _, _, rfl⟩ := zw_mem he
    obtain ⟨_, _, d, _⟩ := t
    cases d <;> rfl
  · obtain ⟨i, hi⟩ := List.getElem?_of_mem ht
    obtain ⟨v, _, hz⟩ := zw_of (f := elW) l hi
    refine ⟨_, List.mem_of_getElem? hz, ?_⟩
    show some (if t.d = true then 6 else 5) = _
    rw [hd]; rfl
theorem parts_ok {ws : List PrtT} {xs : List V} (l : xs.length = ws.length) (h : TrmV (.row ws)) : partsP (List.zipWith elP xs ws) := by
  obtain ⟨⟨l1, l2⟩, hv, ⟨t, ht, hd⟩, nd⟩ := h
  refine ⟨by rw [List.length_zipWith]; omega, fun e he => ?_, ?_, by rw [zw_map (f := elP) (h := (·.n)) (fun _ _ => rfl) l]; exact nd⟩
  · obtain ⟨i, v, t, _, _, rfl⟩ := zw_mem he
    show isK (some (if t.w = ("" : Str) then 7 else 8)) [7, 8] = true
    split <;> rfl
  · rw [List.getLast?_eq_getElem?] at ht
    obtain ⟨v, _, hz⟩ := zw_of (f := elP) l ht
    refine ⟨_, by rw [List.getLast?_eq_getElem?, List.length_zipWith, show min xs.length ws.length = ws.length by omega]; exact hz, ?_⟩
    show some (if t.w = ("" : Str) then 7 else 8) = _
    rw [if_pos hd]
section
variable {P : Program} {w : World} {K : PySem.W.Frag} {mg : Str → Option Value} {base : Heap} {a : Ad}
def spKindC (a : Ad) : Sp := fun vs H Q _ => (∃ x ws, vs = [x] ∧ TrmT H x (.choice ws) ∧ TrmV (.choice ws) ∧ ∀ v H', Same H H' → TrmO a H' v (.choice ws) → Q v H') ∨ ∃ x ws, vs = [x] ∧ TrmT H x (.row ws) ∧ TrmV (.row ws) ∧ ∀ v H', Same H H' → TrmO a H' v (.row ws) → Q v H'
theorem ok_kindC (T : Txt K mg a) : FnOk P w K mg base CX0 9 a._law_kind.f a._law_kind.fd ["_law_term"] (spKindC a) := by
  obtain ⟨SW, hSW⟩ : ∃ S : Sp, S = spWayL a := ⟨_, rfl⟩
  obtain ⟨SP, hSP⟩ : ∃ S : Sp, S = spPrtL a := ⟨_, rfl⟩
  have G__law_kind : FnOk P w K mg base CX0 1 a._law_kind.f a._law_kind.fd ["_law_term"] nev := ok_nev
  have G__law_way : FnOk P w K mg base CX0 8 a._law_way.f a._law_way.fd ["_law_way_here"] SW := by rw [hSW]; exact ok_wayL T
  have G__law_place : FnOk P w K mg base CX0 8 a._law_place.f a._law_place.fd ["_law_part"] SP := by rw [hSP]; exact ok_prtL T
  have GI1 : FnOk P w K mg base (L2.CX P w) 3 (a.I 1).f (a.I 1).fd ["self", "low", "high", "width"] (spNum a) := ok_num T
  have GI2 : FnOk P w K mg base (L2.CX P w) 3 (a.I 2).f (a.I 2).fd ["self", "many"] (spBit a) := ok_bit T
  have GI3 : FnOk P w K mg base (L2.CX P w) 3 (a.I 3).f (a.I 3).fd ["self", "name"] (spCal a) := ok_cal T
  have GI4 : FnOk P w K mg base (L2.CX P w) 3 (a.I 4).f (a.I 4).fd ["self", "item", "width"] (spItm a) := ok_itm T
  have GI9 : FnOk P w K mg base (L2.CX P w) 3 (a.I 9).f (a.I 9).fd ["self", "ways"] (spChoiceG a) := ok_ChoiceG T
  have GI10 : FnOk P w K mg base (L2.CX P w) 3 (a.I 10).f (a.I 10).fd ["self", "parts"] (spRowG a) := ok_RowG T
  have sc : FnScope ["_law_term", "_law_way_here", "_law_part"] ["_law_term"] (defScope (top 40)) := ⟨rfl, rfl, rfl, by decide +kernel, rfl, by decide +kernel, by decide +kernel⟩
  refine T._law_kind.ok sc (fun vs H Q E h => ?_) (fun cdv A outer s H vs Q E hr h => ?_)
  · rcases h with ⟨x, ws, rfl, _⟩ | ⟨x, ws, rfl, _⟩ <;> rfl
  · rcases h with ⟨x, ws, rfl, ⟨p, q, xs, rfl, hp, hq, hx⟩, tv, k⟩ | ⟨x, ws, rfl, ⟨p, q, xs, rfl, hp, hq, hx⟩, tv, k⟩
    · refine ⟨_, (pss_cons (ps_if (pt_cmpR op_isN (pv 0) pe_non (nomark _))
      (pss_one (ps_ret pe_non))
      pss_nil)
      (pss_cons (ps_if (pt_cmpR op_eq (pe_ix ix_list (pv 0) pe_int (fun _ _ => rfl)) pe_str (nomark _))
      (pss_one (ps_ret (pe_mk0 (T.kc 0 (by decide)).mks T.ini0 (T.kc 0 (by decide)).kp (T.kc 0 (by decide)).gl)))
      pss_nil)
      (pss_cons (ps_if (pt_cmpR op_eq (pe_ix ix_list (pv 0) pe_int (fun _ _ => rfl)) pe_str (nomark _))
      (pss_cons (ps_if (pt_cmpR op_isN (pe_ix ix_list (pv 0) pe_int (fun _ _ => rfl)) pe_non (nomark _))
      (pss_one (ps_ret (pe_make T.mk1 GI1 (hr.mono (by decide)) rfl (T.kc 1 (by decide)).gl T.Id1 (.cons (show RelV V.non Value.none from rfl) .nil) passF (pa_cons (pe_ix ix_list (pv 0) pe_int (fun _ _ => rfl)) (pa_cons (pe_ix ix_list (pv 0) pe_int (fun _ _ => rfl)) pa_nil)))))
      pss_nil)
      (pss_one (ps_ret (pe_make T.mk1 GI1 (hr.mono (by decide)) rfl (T.kc 1 (by decide)).gl T.Ib1 .nil passF (pa_cons (pe_ix ix_list (pv 0) pe_int (fun _ _ => rfl)) (pa_cons (pe_ix ix_list (pv 0) pe_int (fun _ _ => rfl)) (pa_cons (pe_ix ix_list (pv 0) pe_int (fun _ _ => rfl)) pa_nil)))))))
      pss_nil)
      (pss_cons (ps_if (pt_cmpR op_eq (pe_ix ix_list (pv 0) pe_int (fun _ _ => rfl)) pe_str (nomark _))
      (pss_one (ps_ret (pe_make T.mk2 GI2 (hr.mono (by decide)) rfl (T.kc 2 (by decide)).gl T.Ib2 .nil passF (pa_cons (pe_ix ix_list (pv 0) pe_int (fun _ _ => rfl)) pa_nil))))
      pss_nil)
      (pss_cons (ps_if (pt_cmpR op_eq (pe_ix ix_list (pv 0) pe_int (fun _ _ => rfl)) pe_str (nomark _))
      (pss_one (ps_ret (pe_make T.mk3 GI3 (hr.mono (by decide)) rfl (T.kc 3 (by decide)).gl T.Ib3 .nil passF (pa_cons (pe_ix ix_list (pv 0) pe_int (fun _ _ => rfl)) pa_nil))))
      pss_nil)
      (pss_cons (ps_if (pt_cmpR op_eq (pe_ix ix_list (pv 0) pe_int (fun _ _ => rfl)) pe_str (nomark _))
      (pss_cons (ps_if (pt_cmpR op_isN (pe_ix ix_list (pv 0) pe_int (fun _ _ => rfl)) pe_non (nomark _))
      (pss_one (ps_ret (pe_make T.mk4 GI4 (hr.mono (by decide)) rfl (T.kc 4 (by decide)).gl T.Id4 (.cons (show RelV V.non Value.none from rfl) .nil) passF (pa_cons (pe_call G__law_kind (hr.mono (by first | decide | omega)) rfl T._law_kind.mg T._law_kind.kp T._law_kind.b .nil pass0 (pa_cons (pe_ix ix_list (pv 0) pe_int (fun _ _ => rfl)) pa_nil)) pa_nil))))
      pss_nil)
      (pss_one (ps_ret (pe_make T.mk4 GI4 (hr.mono (by decide)) rfl (T.kc 4 (by decide)).gl T.Ib4 .nil passF (pa_cons (pe_call G__law_kind (hr.mono (by first | decide | omega)) rfl T._law_kind.mg T._law_kind.kp T._law_kind.b .nil pass0 (pa_cons (pe_ix ix_list (pv 0) pe_int (fun _ _ => rfl)) pa_nil)) (pa_cons (pe_ix ix_list (pv 0) pe_int (fun _ _ => rfl)) pa_nil))))))
      pss_nil)
      (pss_cons (ps_if (pt_cmpR op_eq (pe_ix ix_list (pv 0) pe_int (fun _ _ => rfl)) pe_str (nomark _))
      (pss_one (ps_ret (pe_make T.mk9 GI9 (hr.mono (by decide)) rfl (T.kc 9 (by decide)).gl T.Ib9 .nil passF (pa_cons (pe_lc (te := tCall SW [] E0 (tCons (tVar 1) tNil)) (own := [("_law_way_here", 1)]) (g := gName 1) (by rfl) sc.nd (pi_list (pe_ix ix_list (pv 0) pe_int (fun _ _ => rfl))) (blkOk_by (own := [("_law_way_here", 1)]) (N := ["_law_term", "_law_way_here", "_law_part"]) (sc := defScope (top 40)) (by decide +kernel)) (fun _ _ _ _ _ => pg_name (i := 1) sc.nd rfl (Or.inl rfl)) (fun _ _ _ _ _ => pts_nil) (fun _ _ _ _ _ => (by exact (pe_call G__law_way (hr.mono (by first | decide | omega)) rfl T._law_way.mg T._law_way.kp T._law_way.b .nil pass0 (pa_cons (pv 1) pa_nil))))) pa_nil))))
      pss_nil)
      (pss_one (ps_ret (pe_make T.mk10 GI10 (hr.mono (by decide)) rfl (T.kc 10 (by decide)).gl T.Ib10 .nil passF (pa_cons (pe_lc (te := tCall SP [] E0 (tCons (tVar 2) tNil)) (own := [("_law_part", 2)]) (g := gName 2) (by rfl) sc.nd (pi_list (pe_ix ix_list (pv 0) pe_int (fun _ _ => rfl))) (blkOk_by (own := [("_law_part", 2)]) (N := ["_law_term", "_law_way_here", "_law_part"]) (sc := defScope (top 40)) (by decide +kernel)) (fun _ _ _ _ _ => pg_name (i := 2) sc.nd rfl (Or.inl rfl)) (fun _ _ _ _ _ => pts_nil) (fun _ _ _ _ _ => (by exact (pe_call G__law_place (hr.mono (by first | decide | omega)) rfl T._law_place.mg T._law_place.kp T._law_place.b .nil pass0 (pa_cons (pv 2) pa_nil))))) pa_nil))))))))))), ?_⟩
      subst hSW
      walk_at "go3"
      have ll := tv.1.2
      refine many_le (xs := xs) (fun i v H' => ∃ t, ws[i]? = some t ∧ WayO a H' v t) (fun i y H H' s ⟨t, ht, h⟩ => ⟨t, ht, h.ik s.ik⟩) (fun R r => by walk_at "go"; exact r) (SqL.of hq) (by rw [hx.1]; exact Nat.lt_of_le_of_lt ll (by decide)) (fun _ => rfl) (fun i x H1 R hi s1 r => ?_) (fun D ys H1 nD s1 hD hl hy => ?_)
      · obtain ⟨t, ht, hr⟩ := hx.2 i x hi
        walk_at "go3"
        exact ⟨x, t, rfl, hr.sk (Same.sk s1), tv.2.1 t (List.mem_of_getElem? ht), fun v H' s' ho => r v H' s' ⟨t, ht, ho⟩⟩
      · have hly : ys.length = ws.length := hl.trans hx.1
        walk_at "go3"
        intro x dx nx ndx ne
        have ext : Same H1 (upd (upd H1 dx (.own x)) x (.ins (a.C 9) dx [])) := same2 nx ndx
        have hE : (List.zipWith elW ys ws).map (·.v) = ys := zw_fst (fun _ _ => rfl) hly
        refine ⟨x, dx, .ref D, some (List.zipWith elW ys ws), rfl, upd_same, .seq (.inl (by rw [hE]; exact ext _ _ hD)) (by rw [List.length_zipWith]; omega) (fun e he => ?_), fun es' e pr H2 t kp h2 ht => ⟨rfl, ?_⟩, fun no => absurd ⟨_, rfl, ways_ok hly tv⟩ no⟩
        · obtain ⟨i, v, t, hv, ht, rfl⟩ := zw_mem he
          obtain ⟨t', ht', ho⟩ := hy i v hv
          rw [ht] at ht'
          cases ht'
          exact (ho.ext ext).el
        · cases e
          rw [hE] at ht
          refine k _ _ (s1.trans (kp.same nx ndx)) ⟨x, dx, t, ys, rfl, h2, ht, hly, fun i v hv => ?_⟩
          obtain ⟨t', ht', ho⟩ := hy i v hv
          exact ⟨t', ht', ho.ext (kp.same nx ndx)⟩
    · refine ⟨_, (pss_cons (ps_if (pt_cmpR op_isN (pv 0) pe_non (nomark _))
      (pss_one (ps_ret pe_non))
      pss_nil)
      (pss_cons (ps_if (pt_cmpR op_eq (pe_ix ix_list (pv 0) pe_int (fun _ _ => rfl)) pe_str (nomark _))
      (pss_one (ps_ret (pe_mk0 (T.kc 0 (by decide)).mks T.ini0 (T.kc 0 (by decide)).kp (T.kc 0 (by decide)).gl)))
      pss_nil)
      (pss_cons (ps_if (pt_cmpR op_eq (pe_ix ix_list (pv 0) pe_int (fun _ _ => rfl)) pe_str (nomark _))
      (pss_cons (ps_if (pt_cmpR op_isN (pe_ix ix_list (pv 0) pe_int (fun _ _ => rfl)) pe_non (nomark _))
      (pss_one (ps_ret (pe_make T.mk1 GI1 (hr.mono (by decide)) rfl (T.kc 1 (by decide)).gl T.Id1 (.cons (show RelV V.non Value.none from rfl) .nil) passF (pa_cons (pe_ix ix_list (pv 0) pe_int (fun _ _ => rfl)) (pa_cons (pe_ix ix_list (pv 0) pe_int (fun _ _ => rfl)) pa_nil)))))
      pss_nil)
      (pss_one (ps_ret (pe_make T.mk1 GI1 (hr.mono (by decide)) rfl (T.kc 1 (by decide)).gl T.Ib1 .nil passF (pa_cons (pe_ix ix_list (pv 0) pe_int (fun _ _ => rfl)) (pa_cons (pe_ix ix_list (pv 0) pe_int (fun _ _ => rfl)) (pa_cons (pe_ix ix_list (pv 0) pe_int (fun _ _ => rfl)) pa_nil)))))))
      pss_nil)
      (pss_cons (ps_if (pt_cmpR op_eq (pe_ix ix_list (pv 0) pe_int (fun _ _ => rfl)) pe_str (nomark _))
      (pss_one (ps_ret (pe_make T.mk2 GI2 (hr.mono (by decide)) rfl (T.kc 2 (by decide)).gl T.Ib2 .nil passF (pa_cons (pe_ix ix_list (pv 0) pe_int (fun _ _ => rfl)) pa_nil))))
      pss_nil)
      (pss_cons (ps_if (pt_cmpR op_eq (pe_ix ix_list (pv 0) pe_int (fun _ _ => rfl)) pe_str (nomark _))
      (pss_one (ps_ret (pe_make T.mk3 GI3 (hr.mono (by decide)) rfl (T.kc 3 (by decide)).gl T.Ib3 .nil passF (pa_cons (pe_ix ix_list (pv 0) pe_int (fun _ _ => rfl)) pa_nil))))
      pss_nil)
      (pss_cons (ps_if (pt_cmpR op_eq (pe_ix ix_list (pv 0) pe_int (fun _ _ => rfl)) pe_str (nomark _))
      (pss_cons (ps_if (pt_cmpR op_isN (pe_ix ix_list (pv 0) pe_int (fun _ _ => rfl)) pe_non (nomark _))
      (pss_one (ps_ret (pe_make T.mk4 GI4 (hr.mono (by decide)) rfl (T.kc 4 (by decide)).gl T.Id4 (.cons (show RelV V.non Value.none from rfl) .nil) passF (pa_cons (pe_call G__law_kind (hr.mono (by first | decide | omega)) rfl T._law_kind.mg T._law_kind.kp T._law_kind.b .nil pass0 (pa_cons (pe_ix ix_list (pv 0) pe_int (fun _ _ => rfl)) pa_nil)) pa_nil))))
      pss_nil)
      (pss_one (ps_ret (pe_make T.mk4 GI4 (hr.mono (by decide)) rfl (T.kc 4 (by decide)).gl T.Ib4 .nil passF (pa_cons (pe_call G__law_kind (hr.mono (by first | decide | omega)) rfl T._law_kind.mg T._law_kind.kp T._law_kind.b .nil pass0 (pa_cons (pe_ix ix_list (pv 0) pe_int (fun _ _ => rfl)) pa_nil)) (pa_cons (pe_ix ix_list (pv 0) pe_int (fun _ _ => rfl)) pa_nil))))))
      pss_nil)
      (pss_cons (ps_if (pt_cmpR op_eq (pe_ix ix_list (pv 0) pe_int (fun _ _ => rfl)) pe_str (nomark _))
      (pss_one (ps_ret (pe_make T.mk9 GI9 (hr.mono (by decide)) rfl (T.kc 9 (by decide)).gl T.Ib9 .nil passF (pa_cons (pe_lc (te := tCall SW [] E0 (tCons (tVar 1) tNil)) (own := [("_law_way_here", 1)]) (g := gName 1) (by rfl) sc.nd (pi_list (pe_ix ix_list (pv 0) pe_int (fun _ _ => rfl))) (blkOk_by (own := [("_law_way_here", 1)]) (N := ["_law_term", "_law_way_here", "_law_part"]) (sc := defScope (top 40)) (by decide +kernel)) (fun _ _ _ _ _ => pg_name (i := 1) sc.nd rfl (Or.inl rfl)) (fun _ _ _ _ _ => pts_nil) (fun _ _ _ _ _ => (by exact (pe_call G__law_way (hr.mono (by first | decide | omega)) rfl T._law_way.mg T._law_way.kp T._law_way.b .nil pass0 (pa_cons (pv 1) pa_nil))))) pa_nil))))
      pss_nil)
      (pss_one (ps_ret (pe_make T.mk10 GI10 (hr.mono (by decide)) rfl (T.kc 10 (by decide)).gl T.Ib10 .nil passF (pa_cons (pe_lc (te := tCall SP [] E0 (tCons (tVar 2) tNil)) (own := [("_law_part", 2)]) (g := gName 2) (by rfl) sc.nd (pi_list (pe_ix ix_list (pv 0) pe_int (fun _ _ => rfl))) (blkOk_by (own := [("_law_part", 2)]) (N := ["_law_term", "_law_way_here", "_law_part"]) (sc := defScope (top 40)) (by decide +kernel)) (fun _ _ _ _ _ => pg_name (i := 2) sc.nd rfl (Or.inl rfl)) (fun _ _ _ _ _ => pts_nil) (fun _ _ _ _ _ => (by exact (pe_call G__law_place (hr.mono (by first | decide | omega)) rfl T._law_place.mg T._law_place.kp T._law_place.b .nil pass0 (pa_cons (pv 2) pa_nil))))) pa_nil))))))))))), ?_⟩
      subst hSP
      walk_at "go3"
      have ll := tv.1.2
      refine many_le (xs := xs) (fun i v H' => ∃ t, ws[i]? = some t ∧ PrtO a H' v t) (fun i y H H' s ⟨t, ht, h⟩ => ⟨t, ht, h.ik s.ik⟩) (fun R r => by walk_at "go"; exact r) (SqL.of hq) (by rw [hx.1]; exact Nat.lt_of_le_of_lt ll (by decide)) (fun _ => rfl) (fun i x H1 R hi s1 r => ?_) (fun D ys H1 nD s1 hD hl hy => ?_)
      · obtain ⟨t, ht, hr⟩ := hx.2 i x hi
        walk_at "go3"
        exact ⟨x, t, rfl, hr.sk (Same.sk s1), tv.2.1 t (List.mem_of_getElem? ht), fun v H' s' ho => r v H' s' ⟨t, ht, ho⟩⟩
      · have hly : ys.length = ws.length := hl.trans hx.1
        walk_at "go3"
        intro x dx nx ndx ne
        have ext : Same H1 (upd (upd H1 dx (.own x)) x (.ins (a.C 10) dx [])) := same2 nx ndx
        have hE : (List.zipWith elP ys ws).map (·.v) = ys := zw_fst (fun _ _ => rfl) hly
        refine ⟨x, dx, .ref D, some (List.zipWith elP ys ws), rfl, upd_same, .seq (.inl (by rw [hE]; exact ext _ _ hD)) (by rw [List.length_zipWith]; omega) (fun e he => ?_), fun es' e pr H2 t kp h2 ht => ⟨rfl, ?_⟩, fun no => absurd ⟨_, rfl, parts_ok hly tv⟩ no⟩
        · obtain ⟨i, v, t, hv, ht, rfl⟩ := zw_mem he
          obtain ⟨t', ht', ho⟩ := hy i v hv
          rw [ht] at ht'
          cases ht'
          exact (ho.ext ext).el
        · cases e
          rw [hE] at ht
          refine k _ _ (s1.trans (kp.same nx ndx)) ⟨x, dx, t, ys, rfl, h2, ht, hly, fun i v hv => ?_⟩
          obtain ⟨t', ht', ho⟩ := hy i v hv
          exact ⟨t', ht', ho.ext (kp.same nx ndx)⟩
def spKind (a : Ad) : Sp := fun vs H Q _ => ∃ x t, vs = [x] ∧ TrmT H x t ∧ TrmV t ∧ ∀ v H', Same H H' → TrmO a H' v t → Q v H'
theorem ok_kind (T : Txt K mg a) : FnOk P w K mg base CX0 9 a._law_kind.f a._law_kind.fd ["_law_term"] (spKind a) := fn_imp (fn_or (fn_up (ok_kindI T) (by decide)) (ok_kindC T)) fun vs H Q E ⟨x, t, hv, hx, tv, k⟩ => by
  match t, hx, tv, k with
  | .smp s, hx, tv, k => exact .inl ⟨x, .smp s, hv, hx, tv, k⟩
  | .choice ws, hx, tv, k => exact .inr (.inl ⟨x, ws, hv, hx, tv, k⟩)
  | .row ws, hx, tv, k => exact .inr (.inr ⟨x, ws, hv, hx, tv, k⟩)
end
end Me
set_option maxHeartbeats 8000000
namespace Me
open PySem L2


end Me
local macro_rules | `(tactic| walk_at "go3") => `(tactic| repeat (first | walk_at "go1" | (with_reducible refine And.intro (a := L2.V.non = L2.V.non) rfl ?_) | ((with_reducible refine' Me.i_yes ?_ ?_); (first | rfl | exact decide_eq_true rfl)) | ((with_reducible refine' Me.i_no ?_ ?_); (first | rfl | exact decide_eq_false (fun z => absurd (L2.V.str.inj z) (by decide)) | (simp; done))) | with_reducible refine Me.i_make ?_))
namespace Me
open PySem L2
theorem i_bits {te : TE} {σ : L2.St} {H : Hp} {Q : VK} (q : te σ H fun x H1 => ∃ i, x = .int i ∧ Q (.int (Builtin.Int.intBits i : Nat)) H1) : tBits te σ H Q := q
/-- what is new -/
def Fr (H H' : Hp) : Hp := fun a => match H a with
  | none => H' a
  | some _ => none
theorem Fr.at {H H' : Hp} {a : Addr} {o : HO} (n : H a = none) (h : H' a = some o) : Fr H H' a = some o := by unfold Fr; rw [n]; exact h
theorem Fr.out {H H' : Hp} {a : Addr} {o : HO} (h : Fr H H' a = some o) : H a = none ∧ H' a = some o := by
  unfold Fr at h
  split at h
  · rename_i e; exact ⟨e, h⟩
  · cases h
theorem Fr.sub {H H' : Hp} : Same (Fr H H') H' := fun a o h => (Fr.out h).2
theorem fr_new {p D : Addr} {H H1 : Hp} {o : HO} (w : Went p H H1) (n : H1 D = none) : Fr H (upd H1 D o) D = some o := Fr.at (w.none n (w.1.ne n)) upd_same
theorem Fr.left {p : Addr} {H H1 H' : Hp} (w : Went p H H1) : Same (Fr H1 H') (Fr H H') := fun a o h => by
  obtain ⟨h1, h2⟩ := Fr.out h
  exact Fr.at (w.none h1 (w.1.ne h1)) h2
theorem Fr.same {H H1 H2 : Hp} (s : Same H1 H2) : Same (Fr H H1) (Fr H H2) := fun a o h => Fr.at (Fr.out h).1 (s _ _ (Fr.out h).2)
theorem Fr.sk {p : Addr} {H H1 H2 : Hp} (S : StOk H1 p) (w : Went p H1 H2) : StrKeep (Fr H H1) (Fr H H2) := fun a z xs h => Fr.at (Fr.out h).1 (Went.sk S w _ _ _ (Fr.out h).2)
/-- a flat term as the law draws it -/
def FlatD (k : Int) : Flat → Prop
  | .num l h w => 2 ≤ h - l + 1 ∧ h - l + 1 ≤ 64 ∧ ∀ i, w = some i → 1 ≤ i ∧ i ≤ k ∧ h - l + 1 ≤ 2 ^ i.toNat
  | .bits m => 1 ≤ m ∧ m ≤ 16
  | .call n => nameS n = true
theorem FlatD.v {k : Int} {f : Flat} (h : FlatD k f) (hk : k ≤ 60) : FlatV f := by
  cases f with
  | num l hi w =>
    obtain ⟨h1, h2, h3⟩ := h
    have e60 : (64 : Int) ≤ 2 ^ Int.toNat 60 := by decide +kernel
    show numBad (.int l) (.int hi) (optV w) = none
    show (if 2 ≤ hi - l + 1 ∧ hi - l + 1 ≤ 2 ^ Int.toNat 60 then widBad (hi - l + 1) (optV w) else some ("high" : Str)) = none
    rw [if_pos ⟨h1, by omega⟩]
    cases w with
    | none => rfl
    | some i =>
      obtain ⟨a1, a2, a3⟩ := h3 i rfl
      show widBad (hi - l + 1) (.int i) = none
      unfold widBad
      exact if_pos ⟨a1, by omega, by omega⟩
  | bits m =>
    show bitBad (.int m) = none
    unfold bitBad
    refine if_pos ?_
    show (decide (1 ≤ m) && decide (m ≤ 16)) = true
    rw [decide_eq_true h.1, decide_eq_true h.2]; rfl
  | call n => exact h
theorem FlatD.up {k m : Int} {f : Flat} (h : FlatD k f) (l : k ≤ m) : FlatD m f := by
  cases f with
  | num lo hi w => exact ⟨h.1, h.2.1, fun i e => ⟨(h.2.2 i e).1, by have := (h.2.2 i e).2.1; omega, (h.2.2 i e).2.2⟩⟩
  | bits m => exact h
  | call n => exact h
def Flat.sort : Flat → Nat
  | .num _ _ _ => 0
  | .bits _ => 1
  | .call _ => 2
section
variable {P : Program} {w : World} {K : PySem.W.Frag} {mg : Str → Option Value} {base : Heap} {a : Ad}
def spBig : Sp := fun vs H Q _ => ∃ (p : Addr) (m : Int), vs = [.ref p, .int m] ∧ StOk H p ∧ 0 < m ∧ ∀ (r : Int) (H' : Hp), 0 ≤ r → r < m → Went p H H' → Q (.int r) H'
theorem ok_big (T : Txt K mg a) : FnOk P w K mg base CX0 2 a._law_big.f a._law_big.fd ["_law_state", "_law_many"] spBig := by
  have G__law_pull : FnOk P w K mg base CX0 1 a._law_pull.f a._law_pull.fd ["_law_state", "_law_many"] spPull := ok_pull T
  have sc : FnScope ["_law_state", "_law_many", "_law_number_here", "_law_k"] ["_law_state", "_law_many"] (defScope (top 33)) := ⟨rfl, rfl, rfl, by decide +kernel, rfl, by decide +kernel, by decide +kernel⟩
  refine T._law_big.ok sc (fun vs H Q E h => ?_) (fun cdv A outer s H vs Q E hr h => ?_)
  · obtain ⟨p, m, rfl, _⟩ := h
    rfl
  · obtain ⟨p, m, rfl, S, hm0, k⟩ := h
    refine ⟨_, (pss_cons (ps_set (i := 2) sc.nd rfl (by first | exact Or.inl rfl | exact Or.inr rfl) pe_int)
      (pss_cons (ps_for PassesOwn.never rfl (pi_range1 rfl T.range (pa_cons pe_int pa_nil)) (pg_name (i := 3) sc.nd rfl (by first | exact Or.inl rfl | exact Or.inr rfl))
      (pss_one (ps_set (i := 2) sc.nd rfl (by first | exact Or.inl rfl | exact Or.inr rfl) (pe_op op_add (pe_op op_mul (pv 2) pe_int) (pe_call G__law_pull (hr.mono (by first | decide | omega)) rfl T._law_pull.mg T._law_pull.kp T._law_pull.b .nil pass0 (pa_cons (pv 0) (pa_cons pe_int pa_nil)))))))
      (pss_one (ps_ret (pe_op op_modN (pe_callTy call_int1 (by rfl) T.int (by decide +kernel) (pa_cons (pv 2) pa_nil)) (pv 1)))))), ?_⟩
    walk_at "go"
    refine ⟨8, rfl, by decide, by decide, for_range (n := 8) (fun _ σ H' => ∃ (n : Int) (v : Option V), σ = [some (.ref p), some (.int m), some (.int n), v] ∧ Went p H H') ⟨0, none, rfl, Went.rfl' S⟩ ?_ ?_⟩
    · rintro i σ H1 hi ⟨n, v, rfl, W1⟩
      walk_at "go"
      refine ⟨p, _, rfl, W1.1, by decide, by decide, fun r H2 h0 h1 W2 => ?_⟩
      walk_at "go"
      exact ⟨_, _, rfl, W1.trans W2⟩
    · rintro σ H1 ⟨n, v, rfl, W1⟩
      have hmz : m ≠ 0 := by omega
      walk_at "go"
      exact k _ _ (fm hm0).1 (fm hm0).2 W1

def spNumber : Sp := fun vs H Q _ => ∃ p, vs = [.ref p, .int 6] ∧ StOk H p ∧ ∀ v H' f, FlatT (Fr H H') v f → FlatD 7 f → f.sort = 0 → Went p H H' → Q v H'
theorem ok_number (T : Txt K mg a) : FnOk P w K mg base CX0 3 a._law_number.f a._law_number.fd ["_law_state", "_law_scale"] spNumber := by
  have G__law_pull : FnOk P w K mg base CX0 1 a._law_pull.f a._law_pull.fd ["_law_state", "_law_many"] spPull := ok_pull T
  have G__law_big : FnOk P w K mg base CX0 2 a._law_big.f a._law_big.fd ["_law_state", "_law_many"] spBig := ok_big T
  have sc : FnScope ["_law_state", "_law_scale", "_law_size", "_law_many", "_law_low"] ["_law_state", "_law_scale"] (defScope (top 37)) := ⟨rfl, rfl, rfl, by decide +kernel, rfl, by decide +kernel, by decide +kernel⟩
  refine T._law_number.ok sc (fun vs H Q E h => ?_) (fun cdv A outer s H vs Q E hr h => ?_)
  · obtain ⟨p, rfl, _⟩ := h
    rfl
  · obtain ⟨p, rfl, S, k⟩ := h
    refine ⟨_, (pss_cons (ps_set (i := 2) sc.nd rfl (by first | exact Or.inl rfl | exact Or.inr rfl) (pe_op op_add pe_int (pe_call G__law_pull (hr.mono (by first | decide | omega)) rfl T._law_pull.mg T._law_pull.kp T._law_pull.b .nil pass0 (pa_cons (pv 0) (pa_cons (pv 1) pa_nil)))))
      (pss_cons (ps_set (i := 3) sc.nd rfl (by first | exact Or.inl rfl | exact Or.inr rfl) (pe_op op_add pe_int (pe_call G__law_big (hr.mono (by first | decide | omega)) rfl T._law_big.mg T._law_big.kp T._law_big.b .nil pass0 (pa_cons (pv 0) (pa_cons (pe_op op_sub (pe_op op_shl pe_int (pv 2)) pe_int) pa_nil)))))
      (pss_cons (ps_set (i := 4) sc.nd rfl (by first | exact Or.inl rfl | exact Or.inr rfl) (pe_ix ix_list (pe_lst (pa_cons pe_int (pa_cons (pe_op op_sub (pe_call G__law_pull (hr.mono (by first | decide | omega)) rfl T._law_pull.mg T._law_pull.kp T._law_pull.b .nil pass0 (pa_cons (pv 0) (pa_cons pe_int pa_nil))) pe_int) (pa_cons (pe_op op_sub (pe_call G__law_big (hr.mono (by first | decide | omega)) rfl T._law_big.mg T._law_big.kp T._law_big.b .nil pass0 (pa_cons (pv 0) (pa_cons (pe_op op_pow pe_int pe_int) pa_nil))) (pe_op op_mul pe_int (pe_op op_pow pe_int pe_int))) pa_nil)))) (pe_call G__law_pull (hr.mono (by first | decide | omega)) rfl T._law_pull.mg T._law_pull.kp T._law_pull.b .nil pass0 (pa_cons (pv 0) (pa_cons pe_int pa_nil))) (fun _ _ => rfl)))
      (pss_cons (ps_if (pt_cmpR op_eq (pe_call G__law_pull (hr.mono (by first | decide | omega)) rfl T._law_pull.mg T._law_pull.kp T._law_pull.b .nil pass0 (pa_cons (pv 0) (pa_cons pe_int pa_nil))) pe_int (nomark _))
      (pss_one (ps_ret (pe_lst (pa_cons pe_str (pa_cons (pv 4) (pa_cons (pe_op op_sub (pe_op op_add (pv 4) (pv 3)) pe_int) (pa_cons pe_non pa_nil)))))))
      pss_nil)
      (pss_one (ps_ret (pe_lst (pa_cons pe_str (pa_cons (pv 4) (pa_cons (pe_op op_sub (pe_op op_add (pv 4) (pv 3)) pe_int) (pa_cons (pe_op op_add (pe_bits (pe_op op_sub (pv 3) pe_int)) (pe_call G__law_pull (hr.mono (by first | decide | omega)) rfl T._law_pull.mg T._law_pull.kp T._law_pull.b .nil pass0 (pa_cons (pv 0) (pa_cons pe_int pa_nil)))) pa_nil))))))))))), ?_⟩
    walk_at "go"
    refine ⟨p, _, rfl, S, by decide, by decide, fun r1 H1 a0 a1 W1 => ?_⟩
    walk_at "go"
    have hp6 : (1 : Int) * 2 ^ (1 + r1).toNat ≤ 64 ∧ 2 ≤ (1 : Int) * 2 ^ (1 + r1).toNat := by
      have : r1 = 0 ∨ r1 = 1 ∨ r1 = 2 ∨ r1 = 3 ∨ r1 = 4 ∨ r1 = 5 := by omega
      rcases this with rfl | rfl | rfl | rfl | rfl | rfl <;> decide
    refine ⟨p, _, rfl, W1.1, by omega, fun r2 H2 b0 b1 W2 => ?_⟩
    walk_at "go"
    refine ⟨p, _, rfl, W2.1, by decide, by decide, fun r3 H3 c0 c1 W3 => ?_⟩
    walk_at "go"
    have e59 : (0 : Int) < 10 ^ Int.toNat 59 := by decide +kernel
    refine ⟨p, _, rfl, W3.1, e59, fun r4 H4 _ _ W4 => ?_⟩
    walk_at "go"
    rename_i D1 nD1
    have X1 := ((W1.trans W2).trans W3).trans W4
    have nD1p := X1.1.ne nD1
    have X2 := X1.new (o := HO.lst [V.int 0, V.int (r3 - 10), V.int (r4 - 5 * 10 ^ Int.toNat 58)]) nD1
    refine ⟨p, _, rfl, X2.1, by decide, by decide, fun r5 H5 d0 d1 W5 => ?_⟩
    obtain ⟨v5, hv5, hm5⟩ := at_mem (xs := [V.int 0, V.int (r3 - 10), V.int (r4 - 5 * 10 ^ Int.toNat 58)]) d0 (by simp only [List.length_cons, List.length_nil]; omega)
    refine i_ixl (W5.get nD1p upd_same) hv5 ?_
    obtain ⟨low, rfl⟩ : ∃ l, v5 = V.int l := by
      simp only [List.mem_cons, List.not_mem_nil, or_false] at hm5
      rcases hm5 with rfl | rfl | rfl <;> exact ⟨_, rfl⟩
    have X3 := X2.trans W5
    walk_at "go"
    refine ⟨p, _, rfl, X3.1, by decide, by decide, fun r6 H6 f0 f1 W6 => ?_⟩
    have X4 := X3.trans W6
    walk_at "go"
    refine i_itd (fun h0 => ?_) (fun h0 => ?_)
    · walk_at "go"
      rename_i D nD
      refine k _ _ (.num low (low + (2 + r2) - 1) none) ⟨D, rfl, fr_new X4 nD⟩ ⟨by omega, by omega, fun i e => by cases e⟩ rfl (X4.new nD)
    · walk_at "go"
      have hb : ((2 + r2) - 1).natAbs < 2 ^ (Builtin.Int.intBits ((2 + r2) - 1)) := intBits_le_iff.mp (Nat.le_refl _)
      have hb6 : Builtin.Int.intBits ((2 + r2) - 1) ≤ 6 := intBits_le_iff.mpr (by show _ < 64; omega)
      have hb1 : 1 ≤ Builtin.Int.intBits ((2 + r2) - 1) := by
        rcases Nat.eq_zero_or_pos (Builtin.Int.intBits ((2 + r2) - 1)) with h | h
        · rw [h] at hb; have : ((2 + r2) - 1).natAbs < 1 := hb; omega
        · exact h
      refine i_bits ?_
      walk_at "go"
      refine ⟨_, rfl, ?_⟩
      walk_at "go"
      refine ⟨p, _, rfl, X4.1, by decide, by decide, fun r7 H7 g0 g1 W7 => ?_⟩
      have X5 := X4.trans W7
      walk_at "go"
      rename_i D nD
      refine k _ _ (.num low (low + (2 + r2) - 1) (some ((Builtin.Int.intBits ((2 + r2) - 1) : Nat) + r7))) ⟨D, rfl, fr_new X5 nD⟩ ⟨by omega, by omega, fun i e => ?_⟩ rfl (X5.new nD)
      cases e
      refine ⟨by omega, by omega, ?_⟩
      have e1 : (((Builtin.Int.intBits ((2 + r2) - 1) : Nat) : Int) + r7).toNat = Builtin.Int.intBits ((2 + r2) - 1) + r7.toNat := by omega
      rw [e1]
      have h2 : 2 ^ Builtin.Int.intBits ((2 + r2) - 1) ≤ 2 ^ (Builtin.Int.intBits ((2 + r2) - 1) + r7.toNat) := Nat.pow_le_pow_right (by decide) (by omega)
      have h3 : ((2 ^ (Builtin.Int.intBits ((2 + r2) - 1) + r7.toNat) : Nat) : Int) = (2 : Int) ^ (Builtin.Int.intBits ((2 + r2) - 1) + r7.toNat) := by push_cast; rfl
      omega
def spFlat : Sp := fun vs H Q _ => ∃ (p N : Addr) (ns : List Str), vs = [.ref p, .ref N, .int 6] ∧ StOk H p ∧ N ≠ p ∧ H N = some (.lst (ns.map V.str)) ∧ ns.length ≤ 3 ∧ (∀ n ∈ ns, nameS n = true) ∧ ∀ v H' f, FlatT (Fr H H') v f → FlatD 7 f → Went p H H' → Q v H'
theorem ok_flat (T : Txt K mg a) : FnOk P w K mg base CX0 4 a._law_flat.f a._law_flat.fd ["_law_state", "_law_names", "_law_scale"] spFlat := by
  have G__law_pull : FnOk P w K mg base CX0 1 a._law_pull.f a._law_pull.fd ["_law_state", "_law_many"] spPull := ok_pull T
  have G__law_number : FnOk P w K mg base CX0 3 a._law_number.f a._law_number.fd ["_law_state", "_law_scale"] spNumber := ok_number T
  have sc : FnScope ["_law_state", "_law_names", "_law_scale", "_law_turn"] ["_law_state", "_law_names", "_law_scale"] (defScope (top 38)) := ⟨rfl, rfl, rfl, by decide +kernel, rfl, by decide +kernel, by decide +kernel⟩
  refine T._law_flat.ok sc (fun vs H Q E h => ?_) (fun cdv A outer s H vs Q E hr h => ?_)
  · obtain ⟨p, N, ns, rfl, _⟩ := h
    rfl
  · obtain ⟨p, N, ns, rfl, S, Np, hN, hl, hn, k⟩ := h
    refine ⟨_, (pss_cons (ps_set (i := 3) sc.nd rfl (by first | exact Or.inl rfl | exact Or.inr rfl) (pe_call G__law_pull (hr.mono (by first | decide | omega)) rfl T._law_pull.mg T._law_pull.kp T._law_pull.b .nil pass0 (pa_cons (pv 0) (pa_cons pe_int pa_nil))))
      (pss_cons (ps_if (PW.pt (pw_and (pt_cmpR op_lt (pv 3) pe_int (nomark _)) (pw_and1 (pt_cmpR op_gt (pe_callB call_len_seq (by rfl) T.len PySem.boot_len (pa_cons (pv 1) pa_nil)) pe_int (nomark _)))))
      (pss_one (ps_ret (pe_lst (pa_cons pe_str (pa_cons (pe_ix ix_list (pv 1) (pe_call G__law_pull (hr.mono (by first | decide | omega)) rfl T._law_pull.mg T._law_pull.kp T._law_pull.b .nil pass0 (pa_cons (pv 0) (pa_cons (pe_callB call_len_seq (by rfl) T.len PySem.boot_len (pa_cons (pv 1) pa_nil)) pa_nil))) (fun _ _ => rfl)) pa_nil)))))
      pss_nil)
      (pss_cons (ps_if (pt_cmpR op_lt (pv 3) pe_int (nomark _))
      (pss_one (ps_ret (pe_call G__law_number (hr.mono (by first | decide | omega)) rfl T._law_number.mg T._law_number.kp T._law_number.b .nil pass0 (pa_cons (pv 0) (pa_cons (pv 2) pa_nil)))))
      pss_nil)
      (pss_one (ps_ret (pe_lst (pa_cons pe_str (pa_cons (pe_op op_add pe_int (pe_call G__law_pull (hr.mono (by first | decide | omega)) rfl T._law_pull.mg T._law_pull.kp T._law_pull.b .nil pass0 (pa_cons (pv 0) (pa_cons (pe_callB (call_min2 rfl) (by rfl) T.min (by decide +kernel) (pa_cons pe_int (pa_cons (pv 2) pa_nil))) pa_nil)))) pa_nil)))))))), ?_⟩
    walk_at "go"
    refine ⟨p, _, rfl, S, by decide, by decide, fun r1 H1 a0 a1 W1 => ?_⟩
    have hN1 := W1.get Np hN
    have rest : ∀ σ', σ' = [some (.ref p), some (.ref N), some (.int 6), some (.int r1)] → tSeq (tIfS (tTest (tOp (rI0 fun i j => V.bl (decide (i < j))) (tVar 3) (tC (.int 4)))) (tRet (tCall spNumber [] E0 (tCons (tVar 0) (tCons (tVar 2) tNil)))) tNext)
        (tRet (tLst (tCons (tC (.str "bits")) (tCons (tOp (rI0 fun i j => V.int (i + j)) (tC (.int 1)) (tCall spPull [] E0 (tCons (tVar 0) (tCons (tCB (fun xs H Q => ∃ i j, xs = [V.int i, V.int j] ∧ Q (V.int (if j < i then j else i)) H) (tCons (tC (.int 16)) (tCons (tVar 2) tNil))) tNil)))) tNil))))
        { nx := fun _ H' => Q .non H', rt := Q } σ' H1 := by
      rintro σ' rfl
      walk_at "go"
      refine i_itd (fun h4 => ?_) (fun h4 => ?_)
      · walk_at "go"
        exact ⟨p, rfl, W1.1, fun v H' f hf hd _ W => k v H' f (hf.sk (Same.sk (Fr.left W1))) hd (W1.trans W)⟩
      · walk_at "go"
        refine ⟨_, _, rfl, ?_⟩
        walk_at "go"
        refine ⟨p, _, rfl, W1.1, by decide, by decide, fun r2 H2 b0 b1 W2 => ?_⟩
        have r6 : r2 < 6 := b1
        walk_at "go"
        rename_i D nD
        exact k _ _ (.bits (1 + r2)) ⟨D, rfl, fr_new (W1.trans W2) nD⟩ ⟨by omega, by omega⟩ ((W1.trans W2).new nD)
    walk_at "go"
    refine i_itd (fun h2 => ?_) (fun h2 => ?_)
    · walk_at "go"
      refine i_itd (fun h3 => ?_) (fun h3 => ?_)
      · walk_at "go"
        refine ⟨p, _, rfl, W1.1, h3, by rw [List.length_map]; omega, fun r2 H2 b0 b1 W2 => ?_⟩
        obtain ⟨v, hv, hm⟩ := at_mem b0 b1
        obtain ⟨n, hn', rfl⟩ := List.mem_map.mp hm
        refine i_ixl (W2.get Np hN1) hv ?_
        walk_at "go"
        rename_i D nD
        exact k _ _ (.call n) ⟨D, rfl, fr_new (W1.trans W2) nD⟩ (hn n hn') ((W1.trans W2).new nD)
      · exact rest _ rfl
    · exact rest _ rfl
end
end Me
set_option maxHeartbeats 8000000
namespace Me
open PySem L2


def SmpD (k : Int) : Smp → Prop
  | .flat f => FlatD k f
  | .items f w => FlatD k f ∧ ∀ i, w = some i → 1 ≤ i ∧ i ≤ 3
def InnD (k : Int) : Inn → Prop
  | .smp s => SmpD k s
  | _ => True
theorem SmpD.v {k : Int} {s : Smp} (h : SmpD k s) (hk : k ≤ 60) : SmpV s := by
  cases s with
  | flat f => exact FlatD.v (f := f) h hk
  | items f w =>
    refine ⟨h.1.v hk, ?_⟩
    cases w with
    | none => exact .inl rfl
    | some i =>
      refine .inr ?_
      show (decide (1 ≤ i) && decide (i ≤ 3)) = true
      rw [decide_eq_true (h.2 i rfl).1, decide_eq_true (h.2 i rfl).2]; rfl
theorem InnD.v {k : Int} {s : Inn} (h : InnD k s) (hk : k ≤ 60) : InnV s := by
  cases s with
  | smp s => exact SmpD.v (s := s) h hk
  | _ => trivial
theorem SmpD.up {k m : Int} {s : Smp} (h : SmpD k s) (l : k ≤ m) : SmpD m s := by
  cases s with
  | flat f => exact FlatD.up (f := f) h l
  | items f w => exact ⟨h.1.up l, h.2⟩
theorem InnD.up {k m : Int} {s : Inn} (h : InnD k s) (l : k ≤ m) : InnD m s := by
  cases s with
  | smp s => exact SmpD.up (s := s) h l
  | _ => trivial
theorem optW {r : Int} (h0 : 0 ≤ r) (h1 : r < 4) : ∃ w : Option Int, atI [V.non, .int 1, .int 2, .int 3] r = some (optV w) ∧ ∀ i, w = some i → 1 ≤ i ∧ i ≤ 3 := by
  have : r = 0 ∨ r = 1 ∨ r = 2 ∨ r = 3 := by omega
  rcases this with rfl | rfl | rfl | rfl
  · exact ⟨none, rfl, fun i e => by cases e⟩
  · exact ⟨some 1, rfl, fun i e => by cases e; omega⟩
  · exact ⟨some 2, rfl, fun i e => by cases e; omega⟩
  · exact ⟨some 3, rfl, fun i e => by cases e; omega⟩
section
variable {P : Program} {w : World} {K : PySem.W.Frag} {mg : Str → Option Value} {base : Heap} {a : Ad}
def spSimple2 : Sp := fun vs H Q _ => ∃ (p N : Addr) (ns : List Str), vs = [.ref p, .ref N, .int 6] ∧ StOk H p ∧ N ≠ p ∧ H N = some (.lst (ns.map V.str)) ∧ ns.length ≤ 3 ∧ (∀ n ∈ ns, nameS n = true) ∧ ∀ v H' s, SmpT (Fr H H') v s → SmpD 7 s → Went p H H' → Q v H'
theorem ok_simple2 (T : Txt K mg a) : FnOk P w K mg base CX0 5 a._law_simple.f a._law_simple.fd ["_law_state", "_law_names", "_law_scale"] spSimple2 := by
  have G__law_pull : FnOk P w K mg base CX0 1 a._law_pull.f a._law_pull.fd ["_law_state", "_law_many"] spPull := ok_pull T
  have G__law_flat : FnOk P w K mg base CX0 4 a._law_flat.f a._law_flat.fd ["_law_state", "_law_names", "_law_scale"] spFlat := ok_flat T
  have sc : FnScope ["_law_state", "_law_names", "_law_scale"] ["_law_state", "_law_names", "_law_scale"] (defScope (top 39)) := ⟨rfl, rfl, rfl, by decide +kernel, rfl, by decide +kernel, by decide +kernel⟩
  refine T._law_simple.ok sc (fun vs H Q E h => ?_) (fun cdv A outer s H vs Q E hr h => ?_)
  · obtain ⟨p, N, ns, rfl, _⟩ := h
    rfl
  · obtain ⟨p, N, ns, rfl, S, Np, hN, hl, hn, k⟩ := h
    refine ⟨_, (pss_cons (ps_if (pt_cmpR op_eq (pe_call G__law_pull (hr.mono (by first | decide | omega)) rfl T._law_pull.mg T._law_pull.kp T._law_pull.b .nil pass0 (pa_cons (pv 0) (pa_cons pe_int pa_nil))) pe_int (nomark _))
      (pss_one (ps_ret (pe_lst (pa_cons pe_str (pa_cons (pe_call G__law_flat (hr.mono (by first | decide | omega)) rfl T._law_flat.mg T._law_flat.kp T._law_flat.b .nil pass0 (pa_cons (pv 0) (pa_cons (pv 1) (pa_cons (pv 2) pa_nil)))) (pa_cons (pe_ix ix_list (pe_lst (pa_cons pe_non (pa_cons pe_int (pa_cons pe_int (pa_cons pe_int pa_nil))))) (pe_call G__law_pull (hr.mono (by first | decide | omega)) rfl T._law_pull.mg T._law_pull.kp T._law_pull.b .nil pass0 (pa_cons (pv 0) (pa_cons pe_int pa_nil))) (fun _ _ => rfl)) pa_nil))))))
      pss_nil)
      (pss_one (ps_ret (pe_call G__law_flat (hr.mono (by first | decide | omega)) rfl T._law_flat.mg T._law_flat.kp T._law_flat.b .nil pass0 (pa_cons (pv 0) (pa_cons (pv 1) (pa_cons (pv 2) pa_nil))))))), ?_⟩
    walk_at "go"
    refine ⟨p, _, rfl, S, by decide, by decide, fun r1 H1 a0 a1 W1 => ?_⟩
    have hN1 := W1.get Np hN
    walk_at "go"
    refine i_itd (fun h2 => ?_) (fun h2 => ?_)
    · walk_at "go"
      refine ⟨p, N, ns, rfl, W1.1, Np, hN1, hl, hn, fun v H2 f hf hd W2 => ?_⟩
      have W12 := W1.trans W2
      walk_at "go"
      rename_i L nL
      have X3 := W12.new (o := HO.lst [V.non, .int 1, .int 2, .int 3]) nL
      have Lp := W12.1.ne nL
      have hf3 := hf.sk (Same.sk (Fr.same (H := H1) (same_new (o := HO.lst [V.non, .int 1, .int 2, .int 3]) same_rfl nL)))
      refine ⟨p, _, rfl, X3.1, by decide, by decide, fun r2 H4 b0 b1 W4 => ?_⟩
      obtain ⟨wv, hv, hw⟩ := optW b0 b1
      refine i_ixl (W4.get Lp upd_same) hv ?_
      have X4 := X3.trans W4
      have hf4 := hf3.sk (Fr.sk X3.1 W4)
      walk_at "go"
      rename_i D nD
      have hf5 := hf4.sk (Same.sk (Fr.same (H := H1) (same_new (o := HO.lst [V.str "items", v, optV wv]) same_rfl nD)))
      exact k _ _ (.items f wv) ⟨D, v, rfl, fr_new X4 nD, hf5.sk (Same.sk (Fr.left W1))⟩ ⟨hd, hw⟩ (X4.new nD)
    · walk_at "go"
      exact ⟨p, N, ns, rfl, W1.1, Np, hN1, hl, hn, fun v H2 f hf hd W2 => k v H2 (.flat f) (hf.sk (Same.sk (Fr.left W1))) hd (W1.trans W2)⟩
def spInner : Sp := fun vs H Q _ => ∃ (p : Addr) (turn : Int), vs = [.ref p, .int turn] ∧ StOk H p ∧ 0 ≤ turn ∧ ∀ v H' t, InnT (Fr H H') v t → InnD 7 t → (turn ≠ 0 → t ≠ .non) → (2 ≤ turn → ∃ s, t = .smp s) → Went p H H' → Q v H'
theorem ok_inner (T : Txt K mg a) : FnOk P w K mg base CX0 6 a._law_any_inner.f a._law_any_inner.fd ["_law_state", "_law_turn"] spInner := by
  have G__law_simple : FnOk P w K mg base CX0 5 a._law_simple.f a._law_simple.fd ["_law_state", "_law_names", "_law_scale"] spSimple2 := ok_simple2 T
  have sc : FnScope ["_law_state", "_law_turn"] ["_law_state", "_law_turn"] (defScope (top 43)) := ⟨rfl, rfl, rfl, by decide +kernel, rfl, by decide +kernel, by decide +kernel⟩
  refine T._law_any_inner.ok sc (fun vs H Q E h => ?_) (fun cdv A outer s H vs Q E hr h => ?_)
  · obtain ⟨p, N, rfl, _⟩ := h
    rfl
  · obtain ⟨p, turn, rfl, S, h0, k⟩ := h
    refine ⟨_, (pss_cons (ps_if (pt_cmpR op_eq (pv 1) pe_int (nomark _))
      (pss_one (ps_ret pe_non))
      pss_nil)
      (pss_cons (ps_if (pt_cmpR op_eq (pv 1) pe_int (nomark _))
      (pss_one (ps_ret (pe_lst (pa_cons pe_str pa_nil))))
      pss_nil)
      (pss_one (ps_ret (pe_call G__law_simple (hr.mono (by first | decide | omega)) rfl T._law_simple.mg T._law_simple.kp T._law_simple.b .nil pass0 (pa_cons (pv 0) (pa_cons (pe_lst (pa_cons pe_str (pa_cons pe_str (pa_cons pe_str pa_nil)))) (pa_cons pe_int pa_nil)))))))), ?_⟩
    walk_at "go"
    refine i_itd (fun e => ?_) (fun e => ?_)
    · have e : turn = 0 := V.int.inj e
      walk_at "go"
      exact k _ H .non rfl trivial (fun z => absurd e z) (fun z => by omega) (Went.rfl' S)
    · have e : turn ≠ 0 := fun z => e (by rw [z])
      walk_at "go"
      refine i_itd (fun e1 => ?_) (fun e1 => ?_)
      · have e1 : turn = 1 := V.int.inj e1
        walk_at "go"
        rename_i D nD
        exact k _ _ .nothing ⟨D, rfl, fr_new (Went.rfl' S) nD⟩ trivial (fun _ z => by cases z) (fun z => by omega) ((Went.rfl' S).new nD)
      · walk_at "go"
        rename_i N nN
        have W0 := (Went.rfl' S).new (o := HO.lst [V.str "ab", .str "b", .str "car"]) nN
        refine ⟨p, N, ["ab", "b", "car"], rfl, W0.1, S.ne nN, upd_same, by decide, by decide, fun v H' s hs hd W => ?_⟩
        exact k v H' (.smp s) (SmpT.sk (f := s) hs (Same.sk (Fr.left W0))) hd (fun _ z => by cases z) (fun _ => ⟨s, rfl⟩) (W0.trans W)
end
end Me
set_option maxHeartbeats 8000000
namespace Me
open PySem L2


def WayD (k : Int) (t : WayT) : Prop := WordS t.w ∧ nameS t.n = true ∧ InnD k t.k ∧ (t.d = false → t.k ≠ .non)
def PrtD (k : Int) (t : PrtT) : Prop := nameS t.n = true ∧ InnD k t.k ∧ t.k ≠ .nothing ∧ (t.w = ("" : Str) → t.k ≠ .non) ∧ (t.w ≠ ("" : Str) → WordS t.w)
def TrmD (k : Int) : Trm → Prop
  | .smp s => SmpD k s
  | .choice ws => (1 ≤ ws.length ∧ ws.length ≤ 12) ∧ (∀ t ∈ ws, WayD k t) ∧ (∃ t ∈ ws, t.d = false) ∧ (ws.map (·.n)).Nodup ∧ Apart (ws.map (·.w))
  | .row ps => (1 ≤ ps.length ∧ ps.length ≤ 8) ∧ (∀ t ∈ ps, PrtD k t) ∧ (∃ t, ps.getLast? = some t ∧ t.w = ("" : Str)) ∧ (ps.map (·.n)).Nodup
theorem TrmD.v {k : Int} {t : Trm} (h : TrmD k t) (hk : k ≤ 60) : TrmV t := by
  cases t with
  | smp s => exact SmpD.v (s := s) h hk
  | choice ws => exact ⟨h.1, fun t ht => ⟨(h.2.1 t ht).1, (h.2.1 t ht).2.1, (h.2.1 t ht).2.2.1.v hk, (h.2.1 t ht).2.2.2⟩, h.2.2⟩
  | row ws => exact ⟨h.1, fun t ht => ⟨(h.2.1 t ht).1, (h.2.1 t ht).2.1.v hk, (h.2.1 t ht).2.2⟩, h.2.2⟩
/-- its first way is a Way -/
def Trm.fst : Trm → Prop
  | .choice ws => ∃ t, ws[0]? = some t ∧ t.d = false
  | _ => True
def srtOf (turn : Int) : Nat := if turn = 4 then 1 else if turn = 5 then 2 else 0
theorem Went2.went {p t : Addr} {H H1 H2 : Hp} (w : Went p H H1) (nt : H t = none) (w2 : Went2 p t H1 H2) (st : ∀ L, StAt H1 p L → StAt H2 p L) : Went p H H2 :=
  ⟨w2.1, fun a o na h => w2.2 a o na (fun e => by rw [e, nt] at h; cases h) (w.2.1 a o na h), fun L h => st L (w.2.2 L h)⟩
/-- what is new since H0 stays -/
theorem fr_w2 {p t : Addr} {H0 H1 H2 : Hp} (hp : H0 p ≠ none) (ht : H0 t ≠ none) (w : Went2 p t H1 H2) : Same (Fr H0 H1) (Fr H0 H2) := fun a o h => by
  obtain ⟨h1, h2⟩ := Fr.out h
  exact Fr.at h1 (w.2 a o (fun e => hp (by rw [← e]; exact h1)) (fun e => ht (by rw [← e]; exact h1)) h2)
theorem fr_w {p : Addr} {H0 H1 H2 : Hp} (hp : H0 p ≠ none) (w : Went p H1 H2) : Same (Fr H0 H1) (Fr H0 H2) := fun a o h => by
  obtain ⟨h1, h2⟩ := Fr.out h
  exact Fr.at h1 (w.2.1 a o (fun e => hp (by rw [← e]; exact h1)) h2)
theorem fr_upd {R : Addr} {H0 H1 : Hp} {o : HO} (hR : H0 R ≠ none) : Same (Fr H0 H1) (Fr H0 (upd H1 R o)) := fun a u h => by
  obtain ⟨h1, h2⟩ := Fr.out h
  exact Fr.at h1 (by rw [upd_ne (fun e => hR (by rw [← e]; exact h1))]; exact h2)
theorem st_fresh {p t : Addr} {H H' : Hp} (S : StOk H p) (w : Went p H H') (nt : H t = none) : ∀ L, StAt H' p L → t ≠ L := fun L hL e => by
  obtain ⟨L0, h0⟩ := S
  have h1 := w.2.2 L0 h0
  obtain ⟨_, _, _, _, a1, _⟩ := hL
  obtain ⟨_, _, _, _, b1, _⟩ := h1
  rw [a1] at b1
  have b2 : V.ref L = V.ref L0 := by
    injection b1 with b1
    injection b1 with b1
    injection b1 with b1
  obtain ⟨_, _, _, _, _, c2, _⟩ := h0
  cases b2
  rw [← e, nt] at c2
  cases c2
theorem went_dom {p : Addr} {H H' : Hp} (w : Went p H H') : ∀ a, H' a = none → H a = none := fun a n => w.none n (w.1.ne n)
theorem went2_dom {p t : Addr} {H H' : Hp} {o : HO} (w : Went2 p t H H') (ht : H' t = some o) : ∀ a, H' a = none → H a = none := fun a n => by
  cases e : H a with
  | none => rfl
  | some u =>
    have h1 : a ≠ p := w.1.ne n
    have h2 : a ≠ t := fun z => by rw [z, ht] at n; cases n
    rw [w.2 a u h1 h2 e] at n; cases n
theorem last_at (xs : List V) (v : V) : atI (xs ++ [v]) (((xs ++ [v]).length : Int) - 1) = some v := by
  rw [show (((xs ++ [v]).length : Int) - 1) = ((xs.length : Nat) : Int) by rw [List.length_append]; show ((xs.length + 1 : Nat) : Int) - 1 = _; omega]
  exact atI_nat (by simp)
theorem AllO.snoc {α : Type} {R : Hp → V → α → Prop} {H : Hp} {xs : List V} {ts : List α} {x : V} {t : α} (h : AllO R H xs ts) (r : R H x t) : AllO R H (xs ++ [x]) (ts ++ [t]) := by
  refine ⟨by rw [List.length_append, List.length_append, h.1]; rfl, fun i y hy => ?_⟩
  by_cases q : i < xs.length
  · rw [List.getElem?_append_left q] at hy
    obtain ⟨u, hu, ru⟩ := h.2 i y hy
    exact ⟨u, by rw [List.getElem?_append_left (by rw [← h.1]; exact q)]; exact hu, ru⟩
  · rw [List.getElem?_append_right (by omega)] at hy
    have z : i - xs.length = 0 := by
      rcases Nat.eq_zero_or_pos (i - xs.length) with h | h
      · exact h
      · rw [List.getElem?_eq_none (by show 1 ≤ _; omega)] at hy; cases hy
    rw [z] at hy
    cases hy
    exact ⟨t, by rw [List.getElem?_append_right (by rw [← h.1]; omega), ← h.1, z]; rfl, r⟩
theorem len0 {z : Str} (h : z.length = 0) : z = ("" : Str) := by
  obtain ⟨c⟩ := z
  have : c = #[] := Array.eq_empty_of_size_eq_zero h
  rw [this]; rfl
theorem st_none {H : Hp} {p : Addr} (S : StOk H p) : H p ≠ none := by
  obtain ⟨L, ns, i, b, c, h, _⟩ := S
  rw [h]; intro z; cases z
section
variable {P : Program} {w : World} {K : PySem.W.Frag} {mg : Str → Option Value} {base : Heap} {a : Ad}
def spAny : Sp := fun vs H Q _ => ∃ (p : Addr) (turn : Int), vs = [.ref p, .int turn] ∧ StOk H p ∧ 0 ≤ turn ∧ turn ≤ 5 ∧ ∀ v H' t, TrmT H' v t → TrmD 7 t → t.fst → t.sort = srtOf turn → Went p H H' → Q v H'
theorem ok_any (T : Txt K mg a) : FnOk P w K mg base CX0 7 a._law_any.f a._law_any.fd ["_law_state", "_law_turn"] spAny := by
  have G__law_pull : FnOk P w K mg base CX0 1 a._law_pull.f a._law_pull.fd ["_law_state", "_law_many"] spPull := ok_pull T
  have G__law_number : FnOk P w K mg base CX0 3 a._law_number.f a._law_number.fd ["_law_state", "_law_scale"] spNumber := ok_number T
  have G__law_flat : FnOk P w K mg base CX0 4 a._law_flat.f a._law_flat.fd ["_law_state", "_law_names", "_law_scale"] spFlat := ok_flat T
  have G__law_name : FnOk P w K mg base CX0 2 a._law_name.f a._law_name.fd ["_law_state", "_law_taken"] spName := ok_name T
  have G__law_words : FnOk P w K mg base CX0 2 a._law_words.f a._law_words.fd ["_law_state", "_law_many"] spWordsG := ok_wordsG T
  have G__law_bits : FnOk P w K mg base CX0 2 a._law_bits.f a._law_bits.fd ["_law_state", "_law_many"] spBitsG := ok_bitsG T
  have G__law_any_inner : FnOk P w K mg base CX0 6 a._law_any_inner.f a._law_any_inner.fd ["_law_state", "_law_turn"] spInner := ok_inner T
  have sc : FnScope ["_law_state", "_law_turn", "_law_taken", "_law_rows", "_law_words_here", "_law_word", "_law_many", "_law_k", "_law_inner"] ["_law_state", "_law_turn"] (defScope (top 44)) := ⟨rfl, rfl, rfl, by decide +kernel, rfl, by decide +kernel, by decide +kernel⟩
  refine T._law_any.ok sc (fun vs H Q E h => ?_) (fun cdv A outer s H vs Q E hr h => ?_)
  · obtain ⟨p, N, rfl, _⟩ := h
    rfl
  · obtain ⟨p, turn, rfl, S, t0, t5, k⟩ := h
    refine ⟨_, (pss_cons (ps_if (pt_cmpR op_eq (pv 1) pe_int (nomark _))
      (pss_one (ps_ret (pe_call G__law_number (hr.mono (by first | decide | omega)) rfl T._law_number.mg T._law_number.kp T._law_number.b .nil pass0 (pa_cons (pv 0) (pa_cons pe_int pa_nil)))))
      pss_nil)
      (pss_cons (ps_if (pt_cmpR op_eq (pv 1) pe_int (nomark _))
      (pss_one (ps_ret (pe_lst (pa_cons pe_str (pa_cons (pe_op op_add pe_int (pe_call G__law_pull (hr.mono (by first | decide | omega)) rfl T._law_pull.mg T._law_pull.kp T._law_pull.b .nil pass0 (pa_cons (pv 0) (pa_cons pe_int pa_nil)))) pa_nil)))))
      pss_nil)
      (pss_cons (ps_if (pt_cmpR op_eq (pv 1) pe_int (nomark _))
      (pss_one (ps_ret (pe_lst (pa_cons pe_str (pa_cons (pe_call G__law_flat (hr.mono (by first | decide | omega)) rfl T._law_flat.mg T._law_flat.kp T._law_flat.b .nil pass0 (pa_cons (pv 0) (pa_cons (pe_lst (pa_cons pe_str (pa_cons pe_str pa_nil))) (pa_cons pe_int pa_nil)))) (pa_cons (pe_ix ix_list (pe_lst (pa_cons pe_non (pa_cons pe_int (pa_cons pe_int (pa_cons pe_int pa_nil))))) (pe_call G__law_pull (hr.mono (by first | decide | omega)) rfl T._law_pull.mg T._law_pull.kp T._law_pull.b .nil pass0 (pa_cons (pv 0) (pa_cons pe_int pa_nil))) (fun _ _ => rfl)) pa_nil))))))
      pss_nil)
      (pss_cons (ps_if (pt_cmpR op_eq (pv 1) pe_int (nomark _))
      (pss_one (ps_ret (pe_lst (pa_cons pe_str (pa_cons (pe_call G__law_name (hr.mono (by first | decide | omega)) rfl T._law_name.mg T._law_name.kp T._law_name.b .nil pass0 (pa_cons (pv 0) (pa_cons (pe_lst pa_nil) pa_nil))) pa_nil)))))
      pss_nil)
      (pss_cons (ps_set (i := 2) sc.nd rfl (by first | exact Or.inl rfl | exact Or.inr rfl) (pe_lst pa_nil))
      (pss_cons (ps_set (i := 3) sc.nd rfl (by first | exact Or.inl rfl | exact Or.inr rfl) (pe_lst pa_nil))
      (pss_cons (ps_if (pt_cmpR op_eq (pv 1) pe_int (nomark _))
      (pss_cons (ps_set (i := 4) sc.nd rfl (by first | exact Or.inl rfl | exact Or.inr rfl) (pe_call G__law_words (hr.mono (by first | decide | omega)) rfl T._law_words.mg T._law_words.kp T._law_words.b .nil pass0 (pa_cons (pv 0) (pa_cons (pe_ix ix_list (pe_lst (pa_cons pe_int (pa_cons pe_int (pa_cons pe_int (pa_cons pe_int pa_nil))))) (pe_call G__law_pull (hr.mono (by first | decide | omega)) rfl T._law_pull.mg T._law_pull.kp T._law_pull.b .nil pass0 (pa_cons (pv 0) (pa_cons pe_int pa_nil))) (fun _ _ => rfl)) pa_nil))))
      (pss_cons (ps_for PassesOwn.never rfl (pi_list (pv 4)) (pg_name (i := 5) sc.nd rfl (by first | exact Or.inl rfl | exact Or.inr rfl))
      (pss_cons (ps_expr (pe_bm PySem.F.plainAttrs_list PySem.F.slot_list_append PySem.F.type_list_append mt_append (pv 3) (pa_cons (pe_lst (pa_cons (pv 5) (pa_cons (pe_call G__law_name (hr.mono (by first | decide | omega)) rfl T._law_name.mg T._law_name.kp T._law_name.b .nil pass0 (pa_cons (pv 0) (pa_cons (pv 2) pa_nil))) (pa_cons pe_bl (pa_cons (pe_call G__law_any_inner (hr.mono (by first | decide | omega)) rfl T._law_any_inner.mg T._law_any_inner.kp T._law_any_inner.b .nil pass0 (pa_cons (pv 0) (pa_cons (pe_call G__law_pull (hr.mono (by first | decide | omega)) rfl T._law_pull.mg T._law_pull.kp T._law_pull.b .nil pass0 (pa_cons (pv 0) (pa_cons pe_int pa_nil))) pa_nil))) pa_nil))))) pa_nil)))
      (pss_one (ps_if (PW.pt (pw_or (pt_cmpR op_eq (pe_callB call_len_seq (by rfl) T.len PySem.boot_len (pa_cons (pv 3) pa_nil)) pe_int (nomark _)) (pw_or1 (pt_cmpR op_eq (pe_call G__law_pull (hr.mono (by first | decide | omega)) rfl T._law_pull.mg T._law_pull.kp T._law_pull.b .nil pass0 (pa_cons (pv 0) (pa_cons pe_int pa_nil))) pe_int (nomark _)))))
      (pss_cons (ps_asg pe_bl (pg_sub (pe_ix ix_list (pv 3) (pe_op op_sub (pe_callB call_len_seq (by rfl) T.len PySem.boot_len (pa_cons (pv 3) pa_nil)) pe_int) (fun _ _ => rfl)) pe_int set_list))
      (pss_one (ps_asg (pe_call G__law_any_inner (hr.mono (by first | decide | omega)) rfl T._law_any_inner.mg T._law_any_inner.kp T._law_any_inner.b .nil pass0 (pa_cons (pv 0) (pa_cons (pe_op op_add pe_int (pe_call G__law_pull (hr.mono (by first | decide | omega)) rfl T._law_pull.mg T._law_pull.kp T._law_pull.b .nil pass0 (pa_cons (pv 0) (pa_cons pe_int pa_nil)))) pa_nil))) (pg_sub (pe_ix ix_list (pv 3) (pe_op op_sub (pe_callB call_len_seq (by rfl) T.len PySem.boot_len (pa_cons (pv 3) pa_nil)) pe_int) (fun _ _ => rfl)) pe_int set_list))))
      pss_nil))))
      (pss_one (ps_ret (pe_lst (pa_cons pe_str (pa_cons (pv 3) pa_nil)))))))
      pss_nil)
      (pss_cons (ps_set (i := 6) sc.nd rfl (by first | exact Or.inl rfl | exact Or.inr rfl) (pe_ix ix_list (pe_lst (pa_cons pe_int (pa_cons pe_int (pa_cons pe_int (pa_cons pe_int pa_nil))))) (pe_call G__law_pull (hr.mono (by first | decide | omega)) rfl T._law_pull.mg T._law_pull.kp T._law_pull.b .nil pass0 (pa_cons (pv 0) (pa_cons pe_int pa_nil))) (fun _ _ => rfl)))
      (pss_cons (ps_for PassesOwn.never rfl (pi_range1 rfl T.range (pa_cons (pv 6) pa_nil)) (pg_name (i := 7) sc.nd rfl (by first | exact Or.inl rfl | exact Or.inr rfl))
      (pss_cons (ps_set (i := 5) sc.nd rfl (by first | exact Or.inl rfl | exact Or.inr rfl) pe_str)
      (pss_cons (ps_if (pt_cmpR op_lt (pv 7) (pe_op op_sub (pv 6) pe_int) (nomark _))
      (pss_one (ps_set (i := 5) sc.nd rfl (by first | exact Or.inl rfl | exact Or.inr rfl) (pe_call G__law_bits (hr.mono (by first | decide | omega)) rfl T._law_bits.mg T._law_bits.kp T._law_bits.b .nil pass0 (pa_cons (pv 0) (pa_cons (pe_call G__law_pull (hr.mono (by first | decide | omega)) rfl T._law_pull.mg T._law_pull.kp T._law_pull.b .nil pass0 (pa_cons (pv 0) (pa_cons pe_int pa_nil))) pa_nil)))))
      pss_nil)
      (pss_cons (ps_set (i := 8) sc.nd rfl (by first | exact Or.inl rfl | exact Or.inr rfl) (pe_call G__law_any_inner (hr.mono (by first | decide | omega)) rfl T._law_any_inner.mg T._law_any_inner.kp T._law_any_inner.b .nil pass0 (pa_cons (pv 0) (pa_cons pe_int pa_nil))))
      (pss_cons (ps_if (PW.pt (pw_and (pt_cmpR op_ne (pv 5) pe_str (nomark _)) (pw_and1 (pt_cmpR op_eq (pe_call G__law_pull (hr.mono (by first | decide | omega)) rfl T._law_pull.mg T._law_pull.kp T._law_pull.b .nil pass0 (pa_cons (pv 0) (pa_cons pe_int pa_nil))) pe_int (nomark _)))))
      (pss_one (ps_set (i := 8) sc.nd rfl (by first | exact Or.inl rfl | exact Or.inr rfl) pe_non))
      pss_nil)
      (pss_one (ps_expr (pe_bm PySem.F.plainAttrs_list PySem.F.slot_list_append PySem.F.type_list_append mt_append (pv 3) (pa_cons (pe_lst (pa_cons (pv 5) (pa_cons (pe_call G__law_name (hr.mono (by first | decide | omega)) rfl T._law_name.mg T._law_name.kp T._law_name.b .nil pass0 (pa_cons (pv 0) (pa_cons (pv 2) pa_nil))) (pa_cons (pv 8) pa_nil)))) pa_nil)))))))))
      (pss_one (ps_ret (pe_lst (pa_cons pe_str (pa_cons (pv 3) pa_nil)))))))))))))), ?_⟩
    have hcase : turn = 0 ∨ turn = 1 ∨ turn = 2 ∨ turn = 3 ∨ turn = 4 ∨ turn = 5 := by omega
    have nx : ∀ {i j : Int}, i ≠ j → decide (V.int i = V.int j) = false := fun h => decide_eq_false fun z => h (V.int.inj z)
    rcases hcase with rfl | rfl | rfl | rfl | rfl | rfl
    · walk_at "go"
      refine i_yes (decide_eq_true rfl) ?_
      walk_at "go"
      exact ⟨p, rfl, S, fun v H' f hf hd _ W => k v H' (.smp (.flat f)) (FlatT.sk (f := f) hf (Same.sk Fr.sub)) hd trivial rfl W⟩
    · walk_at "go"
      refine i_no (nx (by decide)) ?_
      walk_at "go"
      refine i_yes (decide_eq_true rfl) ?_
      walk_at "go"
      refine ⟨p, _, rfl, S, by decide, by decide, fun r2 H2 b0 b1 W2 => ?_⟩
      walk_at "go"
      rename_i D nD
      exact k _ _ (.smp (.flat (.bits (1 + r2)))) ⟨D, rfl, upd_same⟩ ⟨by omega, by omega⟩ trivial rfl (W2.new nD)
    · walk_at "go"
      refine i_no (nx (by decide)) ?_
      walk_at "go"
      refine i_no (nx (by decide)) ?_
      walk_at "go"
      refine i_yes (decide_eq_true rfl) ?_
      walk_at "go"
      rename_i N nN
      have W0 := (Went.rfl' S).new (o := HO.lst [V.str "ab", .str "b"]) nN
      refine ⟨p, N, ["ab", "b"], rfl, W0.1, S.ne nN, upd_same, by decide, by decide, fun v H2 f hf hd W2 => ?_⟩
      have hf := hf.sk (Same.sk Fr.sub)
      have W12 := W0.trans W2
      walk_at "go"
      rename_i L nL
      have X3 := W12.new (o := HO.lst [V.non, .int 1, .int 2, .int 3]) nL
      have Lp := W12.1.ne nL
      have hf3 := hf.sk (Same.sk (same_new (o := HO.lst [V.non, .int 1, .int 2, .int 3]) same_rfl nL))
      refine ⟨p, _, rfl, X3.1, by decide, by decide, fun r2 H4 b0 b1 W4 => ?_⟩
      obtain ⟨wv, hv, hw⟩ := optW b0 b1
      refine i_ixl (W4.get Lp upd_same) hv ?_
      have X4 := X3.trans W4
      have hf4 := hf3.sk (Went.sk X3.1 W4)
      walk_at "go"
      rename_i D nD
      have hf5 := hf4.sk (Same.sk (same_new (o := HO.lst [V.str "items", v, optV wv]) same_rfl nD))
      exact k _ _ (.smp (.items f wv)) ⟨D, v, rfl, upd_same, hf5⟩ ⟨hd, hw⟩ trivial rfl (X4.new nD)
    · walk_at "go"
      refine i_no (nx (by decide)) ?_
      walk_at "go"
      refine i_no (nx (by decide)) ?_
      walk_at "go"
      refine i_no (nx (by decide)) ?_
      walk_at "go"
      refine i_yes (decide_eq_true rfl) ?_
      walk_at "go"
      rename_i N nN
      have W0 := (Went.rfl' S).new (o := HO.lst []) nN
      have Np := S.ne nN
      refine ⟨p, N, [], rfl, W0.1, upd_same, Np, by decide, st_fresh S W0 nN, fun z H' hz _ W2 _ st => ?_⟩
      walk_at "go"
      rename_i D nD
      exact k _ _ (.smp (.flat (.call z))) ⟨D, rfl, upd_same⟩ hz trivial rfl ((Went2.went W0 nN W2 st).new nD)
    · walk_at "go"
      refine i_no (nx (by decide)) ?_
      walk_at "go"
      refine i_no (nx (by decide)) ?_
      walk_at "go"
      refine i_no (nx (by decide)) ?_
      walk_at "go"
      refine i_no (nx (by decide)) ?_
      walk_at "go"
      refine i_yes (decide_eq_true rfl) ?_
      rename_i t nt R nR
      have tp := S.ne nt
      have W0 := (Went.rfl' S).new (o := HO.lst []) nt
      have Rp := W0.1.ne nR
      have tR : t ≠ R := ne_of_none upd_same nR
      have W1 := W0.new (o := HO.lst []) nR
      have nR0 : H R = none := W0.none nR Rp
      have h1t : upd (upd H t (.lst [])) R (.lst []) t = some (.lst []) := by rw [upd_ne tR, upd_same]
      have h1R : upd (upd H t (.lst [])) R (.lst []) R = some (.lst []) := upd_same
      generalize upd (upd H t (.lst [])) R (.lst []) = H1 at W1 h1t h1R ⊢
      have z1p := st_none W1.1
      have z1t : H1 t ≠ none := by rw [h1t]; intro z; cases z
      have z1R : H1 R ≠ none := by rw [h1R]; intro z; cases z
      walk_at "go"
      rename_i L nL
      have W2 := W1.new (o := HO.lst [V.int 1, .int 2, .int 3, .int 12]) nL
      have Lp := W1.1.ne nL
      refine ⟨p, _, rfl, W2.1, by decide, by decide, fun r H3 a0 a1 W3 => ?_⟩
      obtain ⟨m, hm, hm0, hm1⟩ : ∃ m : Int, atI [V.int 1, .int 2, .int 3, .int 12] r = some (.int m) ∧ 1 ≤ m ∧ m ≤ 12 := by
        have : r = 0 ∨ r = 1 ∨ r = 2 ∨ r = 3 := by omega
        rcases this with rfl | rfl | rfl | rfl
        · exact ⟨1, rfl, by decide, by decide⟩
        · exact ⟨2, rfl, by decide, by decide⟩
        · exact ⟨3, rfl, by decide, by decide⟩
        · exact ⟨12, rfl, by decide, by decide⟩
      refine i_ixl (W3.get Lp upd_same) hm ?_
      have W13 : Went p H1 H3 := ((Went.rfl' W1.1).new nL).trans W3
      walk_at "go"
      refine ⟨p, m, rfl, W3.1, hm0, by omega, fun D ws H4 nD hD hwl hw hap W4 => ?_⟩
      have W14 := W13.trans W4
      have Dp := W3.1.ne nD
      have Dt : D ≠ t := fun e => by
        have := W13.get tp h1t
        rw [← e, nD] at this; cases this
      have DR : D ≠ R := fun e => by
        have := W13.get Rp h1R
        rw [← e, nD] at this; cases this
      walk_at "go"
      refine ⟨.ref D, rfl, D, rfl, ⟨_, SqL.of hD⟩, for_list (xs := ws.map V.str) (fun i σ H' => ∃ (v5 v6 v7 v8 : Option V) (xs : List V) (ts : List WayT), σ = [some (.ref p), some (.int 4), some (.ref t), some (.ref R), some (.ref D), v5, v6, v7, v8] ∧
        H' R = some (.lst xs) ∧ H' t = some (.lst ((ts.map (·.n)).map V.str)) ∧ H' D = some (.lst (ws.map V.str)) ∧ AllO WayR (Fr H1 H') xs ts ∧ ts.length = i ∧ ts.map (·.w) = ws.take i ∧ (ts.map (·.n)).Nodup ∧ (∀ y ∈ ts, WayD 7 y) ∧ (∀ y, ts[0]? = some y → y.d = false) ∧ (∀ b, H' b = none → H1 b = none) ∧ Went p H H')
        ⟨_, _, _, _, [], [], rfl, W14.get Rp h1R, W14.get tp h1t, hD, ⟨rfl, fun i x h => by simp at h⟩, rfl, rfl, .nil, (fun y h => by cases h), (fun y h => by cases h), went_dom W14, W1.trans W14⟩ ?_ ?_ ?_⟩
      · rintro i σ H5 _ ⟨v5, v6, v7, v8, xs, ts, rfl, hR, ht, hD, _⟩
        exact SqL.of hD
      · rintro i x σ H5 hx ⟨v5, v6, v7, v8, xs, ts, rfl, hR, ht, hD5, hal, hlen, hws, hnd, hwd, hf, hdom, W5⟩
        obtain ⟨wd, hwd', rfl⟩ : ∃ wd, ws[i]? = some wd ∧ x = .str wd := by
          rw [List.getElem?_map] at hx
          cases hu : ws[i]? with
          | none => rw [hu] at hx; cases hx
          | some u => rw [hu] at hx; cases hx; exact ⟨u, rfl, rfl⟩
        have hi12 : i < 12 := by
          have := (List.getElem?_eq_some_iff.mp hwd').1
          omega
        walk_at "go"
        refine ⟨.ref R, rfl, .inl ⟨rfl, _, SqL.of hR⟩, ?_⟩
        walk_at "go"
        refine ⟨p, t, ts.map (·.n), rfl, W5.1, ht, tp, by rw [List.length_map]; omega, st_fresh S W5 nt, fun z H6 hz hzn w6 ht6 st6 => ?_⟩
        have W6 : Went p H H6 := Went2.went W5 nt w6 st6
        have hR6 : H6 R = some (.lst xs) := w6.2 _ _ Rp (fun e => tR e.symm) hR
        have hD6 : H6 D = some (.lst (ws.map V.str)) := w6.2 _ _ Dp Dt hD5
        have f6 := fr_w2 z1p z1t w6
        walk_at "go"
        refine ⟨p, _, rfl, W6.1, by decide, by decide, fun r5 H7 b0 b1 w7 => ?_⟩
        have f7 := fr_w (H0 := H1) z1p w7
        walk_at "go"
        refine ⟨p, r5, rfl, w7.1, b0, fun v H8 kk hv hkd hk0 hk2 w8 => ?_⟩
        have f8 := fr_w (H0 := H1) z1p w8
        have W8 := (W6.trans w7).trans w8
        have hR8 := w8.get Rp (w7.get Rp hR6)
        have hD8 := w8.get Dp (w7.get Dp hD6)
        have ht8 := w8.get tp (w7.get tp ht6)
        have al8 : AllO WayR (Fr H1 H8) xs ts := hal.ext fun x t r => r.sk (Same.sk ((f6.trans f7).trans f8))
        have W17 : ∀ a, H7 a = none → H1 a = none := fun a n => hdom a (went2_dom w6 ht6 a (went_dom w7 a n))
        have hv8 : InnT (Fr H1 H8) v kk := hv.sk (Same.sk fun a o h => Fr.at (W17 a (Fr.out h).1) (Fr.out h).2)
        walk_at "go"
        rename_i r0 nr8
        have nr7 : H7 r0 = none := went_dom w8 _ nr8
        have nr5 : H5 r0 = none := went2_dom w6 ht6 _ (went_dom w7 _ nr7)
        have r0p : r0 ≠ p := W8.1.ne nr8
        have nr00 : H r0 = none := W8.none nr8 r0p
        have Rr : R ≠ r0 := ne_of_none hR8 nr8
        have tr : t ≠ r0 := ne_of_none ht8 nr8
        have Dr : D ≠ r0 := ne_of_none hD8 nr8
        refine ⟨R, xs, _, rfl, rfl, by rw [upd_ne Rr]; exact hR8, by rw [hal.1]; exact Nat.lt_of_le_of_lt (show ts.length ≤ 20 by omega) (by decide), ?_⟩
        have W9 : Went p H (upd (upd H8 r0 (.lst [.str wd, .str z, .bl true, v])) R (.lst (xs ++ [.ref r0]))) := Went.wr S (W8.new nr8) nR0 Rp
        have hR9 : upd (upd H8 r0 (.lst [.str wd, .str z, .bl true, v])) R (.lst (xs ++ [.ref r0])) R = some (.lst (xs ++ [.ref r0])) := upd_same
        have hr9 : upd (upd H8 r0 (.lst [.str wd, .str z, .bl true, v])) R (.lst (xs ++ [.ref r0])) r0 = some (.lst [.str wd, .str z, .bl true, v]) := by rw [upd_ne Rr.symm, upd_same]
        have ht9 : upd (upd H8 r0 (.lst [.str wd, .str z, .bl true, v])) R (.lst (xs ++ [.ref r0])) t = some (.lst (((ts.map (·.n)) ++ [z]).map V.str)) := by rw [upd_ne tR, upd_ne tr]; exact ht8
        have hD9 : upd (upd H8 r0 (.lst [.str wd, .str z, .bl true, v])) R (.lst (xs ++ [.ref r0])) D = some (.lst (ws.map V.str)) := by rw [upd_ne DR, upd_ne Dr]; exact hD8
        have kq9 : ∀ b o, H1 b = none → H8 b = some o → upd (upd H8 r0 (.lst [.str wd, .str z, .bl true, v])) R (.lst (xs ++ [.ref r0])) b = some o := fun b o g1 g2 => by
          rw [upd_ne (fun e => z1R (by rw [← e]; exact g1)), upd_ne (fun e => by rw [e, nr8] at g2; cases g2)]; exact g2
        have kp9 : ∀ b o, H1 b = none → H5 b = some o → upd (upd H8 r0 (.lst [.str wd, .str z, .bl true, v])) R (.lst (xs ++ [.ref r0])) b = some o := fun b o g1 g2 => by
          have np : b ≠ p := fun e => z1p (by rw [← e]; exact g1)
          exact kq9 b o g1 (w8.2.1 b o np (w7.2.1 b o np (w6.2 b o np (fun e => z1t (by rw [← e]; exact g1)) g2)))
        have dm9 : ∀ b, upd (upd H8 r0 (.lst [.str wd, .str z, .bl true, v])) R (.lst (xs ++ [.ref r0])) b = none → H1 b = none := fun b nb => W17 b (went_dom w8 b (upd_none (upd_none nb).2).2)
        have hv9 : InnT (Fr H1 (upd (upd H8 r0 (.lst [.str wd, .str z, .bl true, v])) R (.lst (xs ++ [.ref r0])))) v kk := hv8.sk fun b zz l hb => by
          obtain ⟨g1, g2⟩ := Fr.out hb
          exact Fr.at g1 (kq9 b _ g1 g2)
        generalize upd (upd H8 r0 (.lst [.str wd, .str z, .bl true, v])) R (.lst (xs ++ [.ref r0])) = H9 at W9 hR9 hr9 ht9 hD9 kp9 dm9 hv9 ⊢
        have done : ∀ (d : Bool) (k' : Inn) (v' : V) (Hc : Hp) (v5 v6 v7 v8 : Option V), Hc R = some (.lst (xs ++ [.ref r0])) → Hc r0 = some (.lst [.str wd, .str z, .bl d, v']) → InnT (Fr H1 Hc) v' k' → (d = false → k' ≠ .non) → InnD 7 k' →
            (∀ b o, H1 b = none → H5 b = some o → Hc b = some o) → Hc t = some (.lst (((ts.map (·.n)) ++ [z]).map V.str)) → Hc D = some (.lst (ws.map V.str)) → (i = 0 → d = false) → (∀ b, Hc b = none → H1 b = none) → Went p H Hc →
            ∃ (w5 w6 w7 w8 : Option V) (xs : List V) (ts : List WayT), [some (.ref p), some (.int 4), some (.ref t), some (.ref R), some (.ref D), v5, v6, v7, v8] = [some (.ref p), some (.int 4), some (.ref t), some (.ref R), some (.ref D), w5, w6, w7, w8] ∧
              Hc R = some (.lst xs) ∧ Hc t = some (.lst ((ts.map (·.n)).map V.str)) ∧ Hc D = some (.lst (ws.map V.str)) ∧ AllO WayR (Fr H1 Hc) xs ts ∧ ts.length = i + 1 ∧ ts.map (·.w) = ws.take (i + 1) ∧ (ts.map (·.n)).Nodup ∧ (∀ y ∈ ts, WayD 7 y) ∧ (∀ y, ts[0]? = some y → y.d = false) ∧ (∀ b, Hc b = none → H1 b = none) ∧ Went p H Hc := by
          intro d k' v' Hc v5 v6 v7 v8 hR hr hv hk0 hkd kp ht hD hi dm W
          have hr1 : H1 r0 = none := hdom _ nr5
          refine ⟨v5, v6, v7, v8, xs ++ [.ref r0], ts ++ [⟨wd, z, d, k'⟩], rfl, hR, by rw [List.map_append]; exact ht, hD, ?_, by rw [List.length_append, hlen]; rfl, by rw [List.map_append, hws, take_get hwd']; rfl, ?_, ?_, ?_, dm, W⟩
          · refine AllO.snoc (hal.ext fun x t r => r.sk fun b zz l hb => ?_) ⟨r0, v', rfl, Fr.at hr1 hr, hv⟩
            obtain ⟨g1, g2⟩ := Fr.out hb
            exact Fr.at g1 (kp b _ g1 g2)
          · rw [List.map_append]
            refine List.nodup_append.mpr ⟨hnd, by simp, fun x hx y hy e => ?_⟩
            rw [List.map_cons, List.map_nil, List.mem_singleton] at hy
            subst hy
            exact hzn (by rw [← e]; exact hx)
          · intro y hy
            rcases List.mem_append.mp hy with h | h
            · exact hwd y h
            · rw [List.mem_singleton.mp h]
              exact ⟨hw wd (List.mem_of_getElem? hwd'), hz, hkd, hk0⟩
          · intro y hy
            cases ts with
            | nil =>
              cases hy
              exact hi (by simpa using hlen.symm)
            | cons t0 r => exact hf y hy
        walk_at "go"
        refine i_itd (fun e => ?_) (fun e => ?_)
        · walk_at "go"
          refine i_ixl hR9 (last_at _ _) ?_
          walk_at "go"
          rw [show ([V.str wd, V.str z, V.bl true, v].set (Int.toNat 2) (V.bl false)) = [.str wd, .str z, .bl false, v] from rfl]
          have W10 : Went p H (upd H9 r0 (.lst [.str wd, .str z, .bl false, v])) := Went.wr S W9 nr00 r0p
          have hr10 := upd_same (H := H9) (a := r0) (o := .lst [.str wd, .str z, .bl false, v])
          have hR10 : upd H9 r0 (.lst [.str wd, .str z, .bl false, v]) R = some (.lst (xs ++ [.ref r0])) := by rw [upd_ne Rr]; exact hR9
          have ht10 : upd H9 r0 (.lst [.str wd, .str z, .bl false, v]) t = some (.lst (((ts.map (·.n)) ++ [z]).map V.str)) := by rw [upd_ne tr]; exact ht9
          have hD10 : upd H9 r0 (.lst [.str wd, .str z, .bl false, v]) D = some (.lst (ws.map V.str)) := by rw [upd_ne Dr]; exact hD9
          have kp10 : ∀ b o, H1 b = none → H5 b = some o → upd H9 r0 (.lst [.str wd, .str z, .bl false, v]) b = some o := fun b o g1 g2 => by
            rw [upd_ne (fun e => by rw [e, nr5] at g2; cases g2)]; exact kp9 b o g1 g2
          have dm10 : ∀ b, upd H9 r0 (.lst [.str wd, .str z, .bl false, v]) b = none → H1 b = none := fun b nb => dm9 b (upd_none nb).2
          generalize upd H9 r0 (.lst [.str wd, .str z, .bl false, v]) = H10 at W10 hr10 hR10 ht10 hD10 kp10 dm10 ⊢
          refine ⟨p, _, rfl, W10.1, by decide, by decide, fun r6 H11 c0 c1 w11 => ?_⟩
          walk_at "go"
          refine ⟨p, 1 + r6, rfl, w11.1, by omega, fun v' H12 k' hv' hkd' hk0' _ w12 => ?_⟩
          have w112 := w11.trans w12
          have hR12 := w112.get Rp hR10
          have hr12 := w112.get r0p hr10
          walk_at "go"
          refine i_ixl hR12 (last_at _ _) ?_
          walk_at "go"
          exact done false k' v' (upd H12 r0 (.lst [.str wd, .str z, .bl false, v'])) _ _ _ _ (by rw [upd_ne Rr]; exact hR12) upd_same
            (hv'.sk (fun b zz l hb => by
              obtain ⟨g1, g2⟩ := Fr.out hb
              have nb : b ≠ r0 := fun e => by rw [e] at g1; rw [w11.get r0p hr10] at g1; cases g1
              exact Fr.at (dm10 b (went_dom w11 b g1)) (by rw [upd_ne nb]; exact g2))) (fun _ => hk0' (by omega)) hkd'
            (fun b o g1 g2 => by
              rw [upd_ne (fun e => by rw [e, nr5] at g2; cases g2)]
              exact w112.2.1 b o (fun e => z1p (by rw [← e]; exact g1)) (kp10 b o g1 g2))
            (by rw [upd_ne tr]; exact w112.get tp ht10) (by rw [upd_ne Dr]; exact w112.get Dp hD10) (fun _ => rfl) (fun b nb => dm10 b (went_dom w112 b (upd_none nb).2)) (Went.wr S (W10.trans w112) nr00 r0p)
        · have i0 : i ≠ 0 := fun z => e (by rw [List.length_append, hal.1, hlen, z]; rfl)
          walk_at "go"
          refine ⟨p, _, rfl, W9.1, by decide, by decide, fun r9 H20 d0 d1 w20 => ?_⟩
          have hR20 := w20.get Rp hR9
          have hr20 := w20.get r0p hr9
          have ht20 := w20.get tp ht9
          have hD20 := w20.get Dp hD9
          have W20 := W9.trans w20
          have kp20 : ∀ b o, H1 b = none → H5 b = some o → H20 b = some o := fun b o g1 g2 => w20.2.1 b o (fun e => z1p (by rw [← e]; exact g1)) (kp9 b o g1 g2)
          have dm20 : ∀ b, H20 b = none → H1 b = none := fun b nb => dm9 b (went_dom w20 b nb)
          walk_at "go"
          refine i_itd (fun e => ?_) (fun e => ?_)
          · walk_at "go"
            refine i_ixl hR20 (last_at _ _) ?_
            walk_at "go"
            rw [show ([V.str wd, V.str z, V.bl true, v].set (Int.toNat 2) (V.bl false)) = [.str wd, .str z, .bl false, v] from rfl]
            have W10 : Went p H (upd H20 r0 (.lst [.str wd, .str z, .bl false, v])) := Went.wr S W20 nr00 r0p
            have hr10 := upd_same (H := H20) (a := r0) (o := .lst [.str wd, .str z, .bl false, v])
            have hR10 : upd H20 r0 (.lst [.str wd, .str z, .bl false, v]) R = some (.lst (xs ++ [.ref r0])) := by rw [upd_ne Rr]; exact hR20
            have ht10 : upd H20 r0 (.lst [.str wd, .str z, .bl false, v]) t = some (.lst (((ts.map (·.n)) ++ [z]).map V.str)) := by rw [upd_ne tr]; exact ht20
            have hD10 : upd H20 r0 (.lst [.str wd, .str z, .bl false, v]) D = some (.lst (ws.map V.str)) := by rw [upd_ne Dr]; exact hD20
            have kp10 : ∀ b o, H1 b = none → H5 b = some o → upd H20 r0 (.lst [.str wd, .str z, .bl false, v]) b = some o := fun b o g1 g2 => by
              rw [upd_ne (fun e => by rw [e, nr5] at g2; cases g2)]; exact kp20 b o g1 g2
            have dm10 : ∀ b, upd H20 r0 (.lst [.str wd, .str z, .bl false, v]) b = none → H1 b = none := fun b nb => dm20 b (upd_none nb).2
            generalize upd H20 r0 (.lst [.str wd, .str z, .bl false, v]) = H10 at W10 hr10 hR10 ht10 hD10 kp10 dm10 ⊢
            refine ⟨p, _, rfl, W10.1, by decide, by decide, fun r6 H11 c0 c1 w11 => ?_⟩
            walk_at "go"
            refine ⟨p, 1 + r6, rfl, w11.1, by omega, fun v' H12 k' hv' hkd' hk0' _ w12 => ?_⟩
            have w112 := w11.trans w12
            have hR12 := w112.get Rp hR10
            have hr12 := w112.get r0p hr10
            walk_at "go"
            refine i_ixl hR12 (last_at _ _) ?_
            walk_at "go"
            exact done false k' v' (upd H12 r0 (.lst [.str wd, .str z, .bl false, v'])) _ _ _ _ (by rw [upd_ne Rr]; exact hR12) upd_same
              (hv'.sk (fun b zz l hb => by
                obtain ⟨g1, g2⟩ := Fr.out hb
                have nb : b ≠ r0 := fun e => by rw [e] at g1; rw [w11.get r0p hr10] at g1; cases g1
                exact Fr.at (dm10 b (went_dom w11 b g1)) (by rw [upd_ne nb]; exact g2))) (fun _ => hk0' (by omega)) hkd'
              (fun b o g1 g2 => by
                rw [upd_ne (fun e => by rw [e, nr5] at g2; cases g2)]
                exact w112.2.1 b o (fun e => z1p (by rw [← e]; exact g1)) (kp10 b o g1 g2))
              (by rw [upd_ne tr]; exact w112.get tp ht10) (by rw [upd_ne Dr]; exact w112.get Dp hD10) (fun _ => rfl) (fun b nb => dm10 b (went_dom w112 b (upd_none nb).2)) (Went.wr S (W10.trans w112) nr00 r0p)
          · walk_at "go"
            exact done true kk v H20 _ _ _ _ hR20 hr20 (hv9.sk (Same.sk (fr_w (H0 := H1) z1p w20))) (fun z => by cases z) hkd kp20 ht20 hD20 (fun z => absurd z i0) dm20 W20
      · rintro σ H5 ⟨v5, v6, v7, v8, xs, ts, rfl, hR, ht, hD5, hal, hlen, hws, hnd, hwd, hf, hdom, W5⟩
        walk_at "go"
        rename_i B nB
        have lw : ws.length = m.toNat := hwl
        rw [List.length_map] at hlen hws
        rw [List.take_length] at hws
        have hal5 : AllO WayR H5 xs ts := hal.ext fun x t r => r.sk (Same.sk Fr.sub)
        have BR : R ≠ B := ne_of_none hR nB
        have l1 : 1 ≤ ts.length := by omega
        obtain ⟨t0, ht0⟩ : ∃ t0, ts[0]? = some t0 := ⟨ts[0], List.getElem?_eq_getElem (by omega)⟩
        refine k _ _ (.choice ts) ⟨B, R, xs, rfl, upd_same, by rw [upd_ne BR]; exact hR, hal5.ext fun x t r => r.sk (Same.sk (same_new same_rfl nB))⟩ ⟨⟨l1, by omega⟩, hwd, ⟨t0, List.mem_of_getElem? ht0, hf t0 ht0⟩, hnd, by rw [hws]; exact hap⟩ ⟨t0, ht0, hf t0 ht0⟩ rfl (W5.new nB)
    · walk_at "go"
      refine i_no (nx (by decide)) ?_
      walk_at "go"
      refine i_no (nx (by decide)) ?_
      walk_at "go"
      refine i_no (nx (by decide)) ?_
      walk_at "go"
      refine i_no (nx (by decide)) ?_
      walk_at "go"
      refine i_no (nx (by decide)) ?_
      rename_i t nt R nR
      have tp := S.ne nt
      have W0 := (Went.rfl' S).new (o := HO.lst []) nt
      have Rp := W0.1.ne nR
      have tR : t ≠ R := ne_of_none upd_same nR
      have W1 := W0.new (o := HO.lst []) nR
      have nR0 : H R = none := W0.none nR Rp
      have h1t : upd (upd H t (.lst [])) R (.lst []) t = some (.lst []) := by rw [upd_ne tR, upd_same]
      have h1R : upd (upd H t (.lst [])) R (.lst []) R = some (.lst []) := upd_same
      generalize upd (upd H t (.lst [])) R (.lst []) = H1 at W1 h1t h1R ⊢
      have z1p := st_none W1.1
      have z1t : H1 t ≠ none := by rw [h1t]; intro z; cases z
      have z1R : H1 R ≠ none := by rw [h1R]; intro z; cases z
      walk_at "go"
      rename_i L nL
      have W2 := W1.new (o := HO.lst [V.int 1, .int 2, .int 3, .int 8]) nL
      have Lp := W1.1.ne nL
      refine ⟨p, _, rfl, W2.1, by decide, by decide, fun r H3 a0 a1 W3 => ?_⟩
      obtain ⟨m, hm, hm0, hm1⟩ : ∃ m : Int, atI [V.int 1, .int 2, .int 3, .int 8] r = some (.int m) ∧ 1 ≤ m ∧ m ≤ 8 := by
        have : r = 0 ∨ r = 1 ∨ r = 2 ∨ r = 3 := by omega
        rcases this with rfl | rfl | rfl | rfl
        · exact ⟨1, rfl, by decide, by decide⟩
        · exact ⟨2, rfl, by decide, by decide⟩
        · exact ⟨3, rfl, by decide, by decide⟩
        · exact ⟨8, rfl, by decide, by decide⟩
      refine i_ixl (W3.get Lp upd_same) hm ?_
      have W13 : Went p H1 H3 := ((Went.rfl' W1.1).new nL).trans W3
      walk_at "go"
      refine ⟨.int m, rfl, m, rfl, by omega, by omega, for_range (n := m.toNat) (fun i σ H' => ∃ (v5 v7 v8 : Option V) (xs : List V) (ts : List PrtT), σ = [some (.ref p), some (.int 5), some (.ref t), some (.ref R), none, v5, some (.int m), v7, v8] ∧
        H' R = some (.lst xs) ∧ H' t = some (.lst ((ts.map (·.n)).map V.str)) ∧ AllO PrtR (Fr H1 H') xs ts ∧ ts.length = i ∧ (ts.map (·.n)).Nodup ∧ (∀ y ∈ ts, PrtD 7 y) ∧ (∀ (j : Nat) y, j + 1 = m.toNat → ts[j]? = some y → y.w = ("" : Str)) ∧ (∀ b, H' b = none → H1 b = none) ∧ Went p H H')
        ⟨_, _, _, [], [], rfl, W13.get Rp h1R, W13.get tp h1t, ⟨rfl, fun i x h => by simp at h⟩, rfl, .nil, (fun y h => by cases h), (fun j y _ h => by simp at h), went_dom W13, W1.trans W13⟩ ?_ ?_⟩
      · rintro i σ H5 hi ⟨v5, v7, v8, xs, ts, rfl, hR, ht, hal, hlen, hnd, hwd, hla, hdom, W5⟩
        have hi8 : i < 8 := by omega
        have done : ∀ (wd z : Str) (r0 : Addr) (k' : Inn) (v' : V) (Hc : Hp) (v5 v7 v8 : Option V), H1 r0 = none → Hc R = some (.lst (xs ++ [.ref r0])) → Hc r0 = some (.lst [.str wd, .str z, v']) → InnT (Fr H1 Hc) v' k' → InnD 7 k' → k' ≠ .nothing → (wd = ("" : Str) → k' ≠ .non) → (wd ≠ ("" : Str) → WordS wd) → (i + 1 = m.toNat → wd = ("" : Str)) → nameS z = true → z ∉ ts.map (·.n) →
            (∀ b o, H1 b = none → H5 b = some o → Hc b = some o) → Hc t = some (.lst (((ts.map (·.n)) ++ [z]).map V.str)) → (∀ b, Hc b = none → H1 b = none) → Went p H Hc →
            ∃ (w5 w7 w8 : Option V) (xs : List V) (ts : List PrtT), [some (.ref p), some (.int 5), some (.ref t), some (.ref R), none, v5, some (.int m), v7, v8] = [some (.ref p), some (.int 5), some (.ref t), some (.ref R), none, w5, some (.int m), w7, w8] ∧
              Hc R = some (.lst xs) ∧ Hc t = some (.lst ((ts.map (·.n)).map V.str)) ∧ AllO PrtR (Fr H1 Hc) xs ts ∧ ts.length = i + 1 ∧ (ts.map (·.n)).Nodup ∧ (∀ y ∈ ts, PrtD 7 y) ∧ (∀ (j : Nat) y, j + 1 = m.toNat → ts[j]? = some y → y.w = ("" : Str)) ∧ (∀ b, Hc b = none → H1 b = none) ∧ Went p H Hc := by
          intro wd z r0 k' v' Hc v5 v7 v8 hr1 hR hr hv hkd hnn hn0 hws hlast hz hzn kp ht dm W
          refine ⟨v5, v7, v8, xs ++ [.ref r0], ts ++ [⟨wd, z, k'⟩], rfl, hR, by rw [List.map_append]; exact ht, ?_, by rw [List.length_append, hlen]; rfl, ?_, ?_, ?_, dm, W⟩
          · refine AllO.snoc (hal.ext fun x t r => r.sk fun b zz l hb => ?_) ⟨r0, v', rfl, Fr.at hr1 hr, hv⟩
            obtain ⟨g1, g2⟩ := Fr.out hb
            exact Fr.at g1 (kp b _ g1 g2)
          · rw [List.map_append]
            refine List.nodup_append.mpr ⟨hnd, by simp, fun x hx y hy e => ?_⟩
            rw [List.map_cons, List.map_nil, List.mem_singleton] at hy
            subst hy
            exact hzn (by rw [← e]; exact hx)
          · intro y hy
            rcases List.mem_append.mp hy with h | h
            · exact hwd y h
            · rw [List.mem_singleton.mp h]
              exact ⟨hz, hkd, hnn, hn0, hws⟩
          · intro j y hj hy
            by_cases q : j < ts.length
            · rw [List.getElem?_append_left q] at hy; exact hla j y hj hy
            · rw [List.getElem?_append_right (by omega)] at hy
              have : j - ts.length = 0 := by
                rcases Nat.eq_zero_or_pos (j - ts.length) with h | h
                · exact h
                · rw [List.getElem?_eq_none (by show 1 ≤ _; omega)] at hy; cases hy
              rw [this] at hy
              cases hy
              exact hlast (by omega)
        walk_at "go"
        refine i_itd (fun hk => ?_) (fun hk => ?_)
        · have hnl : ¬ (i + 1 = m.toNat) := by omega
          walk_at "go"
          refine ⟨p, _, rfl, W5.1, by decide, by decide, fun r6 H6 b0 b1 w6 => ?_⟩
          walk_at "go"
          refine ⟨p, r6, rfl, w6.1, b0, by omega, fun wd H7 hwl hwb w7 => ?_⟩
          have w67 := w6.trans w7
          have W7 := W5.trans w67
          have hR7 := w67.get Rp hR
          have ht7 := w67.get tp ht
          have kp7 : ∀ b o, H1 b = none → H5 b = some o → H7 b = some o := fun b o g1 g2 => w67.2.1 b o (fun e => z1p (by rw [← e]; exact g1)) g2
          have dm7 : ∀ b, H7 b = none → H1 b = none := fun b nb => hdom b (went_dom w67 b nb)
          walk_at "go"
          refine ⟨p, 2, rfl, W7.1, by decide, fun v H8 kk hv hkd hk0 hk2 w8 => ?_⟩
          obtain ⟨sm, rfl⟩ := hk2 (by decide)
          have W8 := W7.trans w8
          have hR8 := w8.get Rp hR7
          have ht8 := w8.get tp ht7
          have kp8 : ∀ b o, H1 b = none → H5 b = some o → H8 b = some o := fun b o g1 g2 => w8.2.1 b o (fun e => z1p (by rw [← e]; exact g1)) (kp7 b o g1 g2)
          have dm8 : ∀ b, H8 b = none → H1 b = none := fun b nb => dm7 b (went_dom w8 b nb)
          have hv8 : InnT (Fr H1 H8) v (.smp sm) := hv.sk (Same.sk fun a o h => Fr.at (dm7 a (Fr.out h).1) (Fr.out h).2)
          walk_at "go"
          by_cases hw0 : wd = ("" : Str)
          · subst hw0
            refine i_no (by rw [decide_eq_true rfl]; rfl) ?_
            walk_at "go"
            refine ⟨.ref R, rfl, .inl ⟨rfl, _, SqL.of hR8⟩, ?_⟩
            walk_at "go"
            refine ⟨p, t, ts.map (·.n), rfl, W8.1, ht8, tp, by rw [List.length_map]; omega, st_fresh S W8 nt, fun z H9 hz hzn w9 ht9 st9 => ?_⟩
            have W9 : Went p H H9 := Went2.went W8 nt w9 st9
            have hR9 : H9 R = some (.lst xs) := w9.2 _ _ Rp (fun e => tR e.symm) hR8
            walk_at "go"
            rename_i r0 nr9
            have r0p : r0 ≠ p := W9.1.ne nr9
            have Rr : R ≠ r0 := ne_of_none hR9 nr9
            have tr : t ≠ r0 := ne_of_none ht9 nr9
            have nrB : H8 r0 = none := went2_dom w9 ht9 _ nr9
            refine ⟨R, xs, _, rfl, rfl, by rw [upd_ne Rr]; exact hR9, by rw [hal.1]; exact Nat.lt_of_le_of_lt (show ts.length ≤ 20 by omega) (by decide), ?_⟩
            have kq : ∀ b o, H1 b = none → H8 b = some o → upd (upd H9 r0 (.lst [.str "", .str z, v])) R (.lst (xs ++ [.ref r0])) b = some o := fun b o g1 g2 => by
              rw [upd_ne (fun e => z1R (by rw [← e]; exact g1)), upd_ne (fun e => by rw [e, nrB] at g2; cases g2)]
              exact w9.2 b o (fun e => z1p (by rw [← e]; exact g1)) (fun e => z1t (by rw [← e]; exact g1)) g2
            exact done "" z r0 (.smp sm) v _ _ _ _ (dm8 _ nrB) upd_same (by rw [upd_ne Rr.symm, upd_same]) (hv8.sk fun b zz l hb => by
                obtain ⟨g1, g2⟩ := Fr.out hb
                exact Fr.at g1 (kq b _ g1 g2)) hkd (fun z => by cases z) (fun _ z => by cases z) (fun z => absurd rfl z) (fun _ => rfl) hz hzn (fun b o g1 g2 => kq b o g1 (kp8 b o g1 g2)) (by rw [upd_ne tR, upd_ne tr]; exact ht9) (fun b nb => dm8 b (went2_dom w9 ht9 b (upd_none (upd_none nb).2).2)) (Went.wr S (W9.new nr9) nR0 Rp)
          · have wdS : WordS wd := ⟨by
              rcases Nat.eq_zero_or_pos wd.length with h | h
              · exact absurd (len0 h) hw0
              · exact h, by omega, hwb⟩
            refine i_yes (by rw [decide_eq_false (fun z => hw0 (V.str.inj z))]; rfl) ?_
            walk_at "go"
            refine ⟨p, _, rfl, W8.1, by decide, by decide, fun r9 H10 c0 c1 w10 => ?_⟩
            have W10 := W8.trans w10
            have hR10 := w10.get Rp hR8
            have ht10 := w10.get tp ht8
            have kp10 : ∀ b o, H1 b = none → H5 b = some o → H10 b = some o := fun b o g1 g2 => w10.2.1 b o (fun e => z1p (by rw [← e]; exact g1)) (kp8 b o g1 g2)
            have dm10 : ∀ b, H10 b = none → H1 b = none := fun b nb => dm8 b (went_dom w10 b nb)
            have hv10 := hv8.sk (Same.sk (fr_w (H0 := H1) z1p w10))
            walk_at "go"
            refine i_itd (fun h9 => ?_) (fun h9 => ?_)
            · walk_at "go"
              refine ⟨.ref R, rfl, .inl ⟨rfl, _, SqL.of hR10⟩, ?_⟩
              walk_at "go"
              refine ⟨p, t, ts.map (·.n), rfl, W10.1, ht10, tp, by rw [List.length_map]; omega, st_fresh S W10 nt, fun z H9 hz hzn w9 ht9 st9 => ?_⟩
              have W9 : Went p H H9 := Went2.went W10 nt w9 st9
              have hR9 : H9 R = some (.lst xs) := w9.2 _ _ Rp (fun e => tR e.symm) hR10
              walk_at "go"
              rename_i r0 nr9
              have r0p : r0 ≠ p := W9.1.ne nr9
              have Rr : R ≠ r0 := ne_of_none hR9 nr9
              have tr : t ≠ r0 := ne_of_none ht9 nr9
              have nrB : H10 r0 = none := went2_dom w9 ht9 _ nr9
              refine ⟨R, xs, _, rfl, rfl, by rw [upd_ne Rr]; exact hR9, by rw [hal.1]; exact Nat.lt_of_le_of_lt (show ts.length ≤ 20 by omega) (by decide), ?_⟩
              have kq : ∀ b o, H1 b = none → H10 b = some o → upd (upd H9 r0 (.lst [.str wd, .str z, .non])) R (.lst (xs ++ [.ref r0])) b = some o := fun b o g1 g2 => by
                rw [upd_ne (fun e => z1R (by rw [← e]; exact g1)), upd_ne (fun e => by rw [e, nrB] at g2; cases g2)]
                exact w9.2 b o (fun e => z1p (by rw [← e]; exact g1)) (fun e => z1t (by rw [← e]; exact g1)) g2
              exact done wd z r0 .non .non _ _ _ _ (dm10 _ nrB) upd_same (by rw [upd_ne Rr.symm, upd_same]) ((show InnT (Fr H1 H10) .non .non from rfl).sk fun b zz l hb => by
                  obtain ⟨g1, g2⟩ := Fr.out hb
                  exact Fr.at g1 (kq b _ g1 g2)) trivial (fun z => by cases z) (fun e _ => hw0 e) (fun _ => wdS) (fun z => absurd z hnl) hz hzn (fun b o g1 g2 => kq b o g1 (kp10 b o g1 g2)) (by rw [upd_ne tR, upd_ne tr]; exact ht9) (fun b nb => dm10 b (went2_dom w9 ht9 b (upd_none (upd_none nb).2).2)) (Went.wr S (W9.new nr9) nR0 Rp)
            · walk_at "go"
              refine ⟨.ref R, rfl, .inl ⟨rfl, _, SqL.of hR10⟩, ?_⟩
              walk_at "go"
              refine ⟨p, t, ts.map (·.n), rfl, W10.1, ht10, tp, by rw [List.length_map]; omega, st_fresh S W10 nt, fun z H9 hz hzn w9 ht9 st9 => ?_⟩
              have W9 : Went p H H9 := Went2.went W10 nt w9 st9
              have hR9 : H9 R = some (.lst xs) := w9.2 _ _ Rp (fun e => tR e.symm) hR10
              walk_at "go"
              rename_i r0 nr9
              have r0p : r0 ≠ p := W9.1.ne nr9
              have Rr : R ≠ r0 := ne_of_none hR9 nr9
              have tr : t ≠ r0 := ne_of_none ht9 nr9
              have nrB : H10 r0 = none := went2_dom w9 ht9 _ nr9
              refine ⟨R, xs, _, rfl, rfl, by rw [upd_ne Rr]; exact hR9, by rw [hal.1]; exact Nat.lt_of_le_of_lt (show ts.length ≤ 20 by omega) (by decide), ?_⟩
              have kq : ∀ b o, H1 b = none → H10 b = some o → upd (upd H9 r0 (.lst [.str wd, .str z, v])) R (.lst (xs ++ [.ref r0])) b = some o := fun b o g1 g2 => by
                rw [upd_ne (fun e => z1R (by rw [← e]; exact g1)), upd_ne (fun e => by rw [e, nrB] at g2; cases g2)]
                exact w9.2 b o (fun e => z1p (by rw [← e]; exact g1)) (fun e => z1t (by rw [← e]; exact g1)) g2
              exact done wd z r0 (.smp sm) v _ _ _ _ (dm10 _ nrB) upd_same (by rw [upd_ne Rr.symm, upd_same]) (hv10.sk fun b zz l hb => by
                  obtain ⟨g1, g2⟩ := Fr.out hb
                  exact Fr.at g1 (kq b _ g1 g2)) hkd (fun z => by cases z) (fun _ z => by cases z) (fun _ => wdS) (fun z => absurd z hnl) hz hzn (fun b o g1 g2 => kq b o g1 (kp10 b o g1 g2)) (by rw [upd_ne tR, upd_ne tr]; exact ht9) (fun b nb => dm10 b (went2_dom w9 ht9 b (upd_none (upd_none nb).2).2)) (Went.wr S (W9.new nr9) nR0 Rp)
        · have kp5 : ∀ b o, H1 b = none → H5 b = some o → H5 b = some o := fun b o _ g => g
          walk_at "go"
          refine ⟨p, 2, rfl, W5.1, by decide, fun v H8 kk hv hkd hk0 hk2 w8 => ?_⟩
          obtain ⟨sm, rfl⟩ := hk2 (by decide)
          have W8 := W5.trans w8
          have hR8 := w8.get Rp hR
          have ht8 := w8.get tp ht
          have kp8 : ∀ b o, H1 b = none → H5 b = some o → H8 b = some o := fun b o g1 g2 => w8.2.1 b o (fun e => z1p (by rw [← e]; exact g1)) (kp5 b o g1 g2)
          have dm8 : ∀ b, H8 b = none → H1 b = none := fun b nb => hdom b (went_dom w8 b nb)
          have hv8 : InnT (Fr H1 H8) v (.smp sm) := hv.sk (Same.sk fun a o h => Fr.at (hdom a (Fr.out h).1) (Fr.out h).2)
          walk_at "go"
          refine i_no (by rw [decide_eq_true rfl]; rfl) ?_
          walk_at "go"
          refine ⟨.ref R, rfl, .inl ⟨rfl, _, SqL.of hR8⟩, ?_⟩
          walk_at "go"
          refine ⟨p, t, ts.map (·.n), rfl, W8.1, ht8, tp, by rw [List.length_map]; omega, st_fresh S W8 nt, fun z H9 hz hzn w9 ht9 st9 => ?_⟩
          have W9 : Went p H H9 := Went2.went W8 nt w9 st9
          have hR9 : H9 R = some (.lst xs) := w9.2 _ _ Rp (fun e => tR e.symm) hR8
          walk_at "go"
          rename_i r0 nr9
          have r0p : r0 ≠ p := W9.1.ne nr9
          have Rr : R ≠ r0 := ne_of_none hR9 nr9
          have tr : t ≠ r0 := ne_of_none ht9 nr9
          have nrB : H8 r0 = none := went2_dom w9 ht9 _ nr9
          refine ⟨R, xs, _, rfl, rfl, by rw [upd_ne Rr]; exact hR9, by rw [hal.1]; exact Nat.lt_of_le_of_lt (show ts.length ≤ 20 by omega) (by decide), ?_⟩
          have kq : ∀ b o, H1 b = none → H8 b = some o → upd (upd H9 r0 (.lst [.str "", .str z, v])) R (.lst (xs ++ [.ref r0])) b = some o := fun b o g1 g2 => by
            rw [upd_ne (fun e => z1R (by rw [← e]; exact g1)), upd_ne (fun e => by rw [e, nrB] at g2; cases g2)]
            exact w9.2 b o (fun e => z1p (by rw [← e]; exact g1)) (fun e => z1t (by rw [← e]; exact g1)) g2
          exact done "" z r0 (.smp sm) v _ _ _ _ (dm8 _ nrB) upd_same (by rw [upd_ne Rr.symm, upd_same]) (hv8.sk fun b zz l hb => by
              obtain ⟨g1, g2⟩ := Fr.out hb
              exact Fr.at g1 (kq b _ g1 g2)) hkd (fun z => by cases z) (fun _ z => by cases z) (fun z => absurd rfl z) (fun _ => rfl) hz hzn (fun b o g1 g2 => kq b o g1 (kp8 b o g1 g2)) (by rw [upd_ne tR, upd_ne tr]; exact ht9) (fun b nb => dm8 b (went2_dom w9 ht9 b (upd_none (upd_none nb).2).2)) (Went.wr S (W9.new nr9) nR0 Rp)
      · rintro σ H5 ⟨v5, v7, v8, xs, ts, rfl, hR, ht, hal, hlen, hnd, hwd, hla, hdom, W5⟩
        walk_at "go"
        rename_i B nB
        have hal5 : AllO PrtR H5 xs ts := hal.ext fun x t r => r.sk (Same.sk Fr.sub)
        have BR : R ≠ B := ne_of_none hR nB
        have l1 : 1 ≤ ts.length := by omega
        have hgl : ts.getLast? = some ts[ts.length - 1] := by rw [List.getLast?_eq_getElem?]; exact List.getElem?_eq_getElem (by omega)
        refine k _ _ (.row ts) ⟨B, R, xs, rfl, upd_same, by rw [upd_ne BR]; exact hR, hal5.ext fun x t r => r.sk (Same.sk (same_new same_rfl nB))⟩ ⟨⟨l1, by omega⟩, hwd, ⟨_, hgl, hla (ts.length - 1) _ (by omega) (List.getElem?_eq_getElem (by omega))⟩, hnd⟩ trivial rfl (W5.new nB)
end
end Me
set_option maxHeartbeats 8000000
namespace Me
open PySem L2


end Me
local macro_rules | `(tactic| walk_at "go3") => `(tactic| repeat (first | walk_at "go1" | (with_reducible refine And.intro (a := L2.V.non = L2.V.non) rfl ?_) | ((with_reducible refine' Me.i_yes ?_ ?_); (first | rfl | exact decide_eq_true rfl)) | ((with_reducible refine' Me.i_no ?_ ?_); (first | rfl | exact decide_eq_false (fun z => absurd (L2.V.str.inj z) (by decide)) | (simp; done))) | with_reducible refine Me.i_make ?_))
namespace Me
open PySem L2
section
variable {P : Program} {w : World} {K : PySem.W.Frag} {mg : Str → Option Value} {base : Heap} {a : Ad}
def spChF : Sp := fun vs H Q _ => ∃ (p : Addr) (x : V) (f : Flat), vs = [.ref p, x] ∧ StOk H p ∧ FlatT H x f ∧ FlatD 7 f ∧ ∀ v H' g, FlatT H' v g → FlatD 8 g → g.sort = f.sort → Went p H H' → Q v H'
theorem ok_chF (T : Txt K mg a) : FnOk P w K mg base CX0 3 a._law_changed_simple.f a._law_changed_simple.fd ["_law_state", "_law_term"] spChF := by
  have G__law_pull : FnOk P w K mg base CX0 1 a._law_pull.f a._law_pull.fd ["_law_state", "_law_many"] spPull := ok_pull T
  have G__law_name : FnOk P w K mg base CX0 2 a._law_name.f a._law_name.fd ["_law_state", "_law_taken"] spName := ok_name T
  have G__law_changed_simple : FnOk P w K mg base CX0 1 a._law_changed_simple.f a._law_changed_simple.fd ["_law_state", "_law_term"] nev := ok_nev
  have sc : FnScope ["_law_state", "_law_term", "_law_turn"] ["_law_state", "_law_term"] (defScope (top 45)) := ⟨rfl, rfl, rfl, by decide +kernel, rfl, by decide +kernel, by decide +kernel⟩
  refine T._law_changed_simple.ok sc (fun vs H Q E h => ?_) (fun cdv A outer s H vs Q E hr h => ?_)
  · obtain ⟨p, x, f, rfl, _⟩ := h
    rfl
  · obtain ⟨p, x, f, rfl, S, hx, hd, k⟩ := h
    refine ⟨_, (pss_cons (ps_set (i := 2) sc.nd rfl (by first | exact Or.inl rfl | exact Or.inr rfl) (pe_call G__law_pull (hr.mono (by first | decide | omega)) rfl T._law_pull.mg T._law_pull.kp T._law_pull.b .nil pass0 (pa_cons (pv 0) (pa_cons pe_int pa_nil))))
      (pss_cons (ps_if (pt_cmpR op_eq (pe_ix ix_list (pv 1) pe_int (fun _ _ => rfl)) pe_str (nomark _))
      (pss_cons (ps_if (pt_cmpR op_eq (pv 2) pe_int (nomark _))
      (pss_one (ps_ret (pe_lst (pa_cons pe_str (pa_cons (pe_op op_sub (pe_ix ix_list (pv 1) pe_int (fun _ _ => rfl)) pe_int) (pa_cons (pe_op op_sub (pe_ix ix_list (pv 1) pe_int (fun _ _ => rfl)) pe_int) (pa_cons (pe_ix ix_list (pv 1) pe_int (fun _ _ => rfl)) pa_nil)))))))
      pss_nil)
      (pss_cons (ps_if (PW.pt (pw_or (pt_cmpR op_eq (pv 2) pe_int (nomark _)) (pw_or1 (pt_cmpR op_isN (pe_ix ix_list (pv 1) pe_int (fun _ _ => rfl)) pe_non (nomark _)))))
      (pss_one (ps_ret (pe_lst (pa_cons pe_str (pa_cons (pe_ix ix_list (pv 1) pe_int (fun _ _ => rfl)) (pa_cons (pe_op op_add (pe_op op_add (pe_ix ix_list (pv 1) pe_int (fun _ _ => rfl)) pe_int) (pe_op op_fdivN (pe_op op_sub (pe_ix ix_list (pv 1) pe_int (fun _ _ => rfl)) (pe_ix ix_list (pv 1) pe_int (fun _ _ => rfl))) pe_int)) (pa_cons (pe_ix ix_list (pv 1) pe_int (fun _ _ => rfl)) pa_nil)))))))
      pss_nil)
      (pss_one (ps_ret (pe_lst (pa_cons pe_str (pa_cons (pe_ix ix_list (pv 1) pe_int (fun _ _ => rfl)) (pa_cons (pe_ix ix_list (pv 1) pe_int (fun _ _ => rfl)) (pa_cons (pe_op op_add (pe_ix ix_list (pv 1) pe_int (fun _ _ => rfl)) pe_int) pa_nil)))))))))
      pss_nil)
      (pss_cons (ps_if (pt_cmpR op_eq (pe_ix ix_list (pv 1) pe_int (fun _ _ => rfl)) pe_str (nomark _))
      (pss_one (ps_ret (pe_lst (pa_cons pe_str (pa_cons (pe_op op_add pe_int (pe_call G__law_pull (hr.mono (by first | decide | omega)) rfl T._law_pull.mg T._law_pull.kp T._law_pull.b .nil pass0 (pa_cons (pv 0) (pa_cons pe_int pa_nil)))) pa_nil)))))
      pss_nil)
      (pss_cons (ps_if (pt_cmpR op_eq (pe_ix ix_list (pv 1) pe_int (fun _ _ => rfl)) pe_str (nomark _))
      (pss_cons (ps_if (pt_cmpR op_eq (pv 2) pe_int (nomark _))
      (pss_one (ps_ret (pe_lst (pa_cons pe_str (pa_cons (pe_ix ix_list (pv 1) pe_int (fun _ _ => rfl)) (pa_cons (pe_ix ix_list (pe_lst (pa_cons pe_non (pa_cons pe_int (pa_cons pe_int (pa_cons pe_int pa_nil))))) (pe_call G__law_pull (hr.mono (by first | decide | omega)) rfl T._law_pull.mg T._law_pull.kp T._law_pull.b .nil pass0 (pa_cons (pv 0) (pa_cons pe_int pa_nil))) (fun _ _ => rfl)) pa_nil))))))
      pss_nil)
      (pss_one (ps_ret (pe_lst (pa_cons pe_str (pa_cons (pe_call G__law_changed_simple (hr.mono (by first | decide | omega)) rfl T._law_changed_simple.mg T._law_changed_simple.kp T._law_changed_simple.b .nil pass0 (pa_cons (pv 0) (pa_cons (pe_ix ix_list (pv 1) pe_int (fun _ _ => rfl)) pa_nil))) (pa_cons (pe_ix ix_list (pv 1) pe_int (fun _ _ => rfl)) pa_nil)))))))
      pss_nil)
      (pss_one (ps_ret (pe_lst (pa_cons pe_str (pa_cons (pe_call G__law_name (hr.mono (by first | decide | omega)) rfl T._law_name.mg T._law_name.kp T._law_name.b .nil pass0 (pa_cons (pv 0) (pa_cons (pe_lst pa_nil) pa_nil))) pa_nil))))))))), ?_⟩
    walk_at "go3"
    refine ⟨p, _, rfl, S, by decide, by decide, fun r1 H1 a0 a1 W1 => ?_⟩
    have hx1 := hx.sk (Went.sk S W1)
    cases f with
    | num l h wv =>
      obtain ⟨q, rfl, hq⟩ := hx1
      obtain ⟨d1, d2, d3⟩ := hd
      have tl : ∀ (σ' : L2.St), True := fun _ => trivial
      cases wv with
      | none =>
        have hq : H1 q = some (.lst [.str "number", .int l, .int h, .non]) := hq
        walk_at "go3"
        refine i_itd (fun e => ?_) (fun e => ?_)
        · walk_at "go3"
          rename_i D nD
          exact k _ _ (.num (l - 1) (h - 1) none) ⟨D, rfl, upd_same⟩ ⟨by omega, by omega, fun i e => by cases e⟩ rfl (W1.new nD)
        · have fin : ∀ (R : VK), (∀ D, H1 D = none → R (.ref D) (upd H1 D (.lst [.str "number", .int l, .int (l + 1 + (h - l).fdiv 2), .non]))) → True := fun _ _ => trivial
          have hfd : (h - l).fdiv 2 = (h - l) / 2 := Int.fdiv_eq_ediv_of_nonneg _ (by decide)
          walk_at "go3"
          refine i_itd (fun e2 => ?_) (fun e2 => ?_)
          · walk_at "go3"
            rename_i D nD
            exact k _ _ (.num l (l + 1 + (h - l).fdiv 2) none) ⟨D, rfl, upd_same⟩ ⟨by omega, by omega, fun i e => by cases e⟩ rfl (W1.new nD)
          · walk_at "go3"
            rename_i D nD
            exact k _ _ (.num l (l + 1 + (h - l).fdiv 2) none) ⟨D, rfl, upd_same⟩ ⟨by omega, by omega, fun i e => by cases e⟩ rfl (W1.new nD)
      | some j =>
        have hq : H1 q = some (.lst [.str "number", .int l, .int h, .int j]) := hq
        obtain ⟨e1, e2, e3⟩ := d3 j rfl
        have hfd : (h - l).fdiv 2 = (h - l) / 2 := Int.fdiv_eq_ediv_of_nonneg _ (by decide)
        walk_at "go3"
        refine i_itd (fun e => ?_) (fun e => ?_)
        · walk_at "go3"
          rename_i D nD
          exact k _ _ (.num (l - 1) (h - 1) (some j)) ⟨D, rfl, upd_same⟩ ⟨by omega, by omega, fun i e => by cases e; exact ⟨e1, by omega, by omega⟩⟩ rfl (W1.new nD)
        · walk_at "go3"
          refine i_itd (fun e2 => ?_) (fun e2 => ?_)
          · walk_at "go3"
            rename_i D nD
            exact k _ _ (.num l (l + 1 + (h - l).fdiv 2) (some j)) ⟨D, rfl, upd_same⟩ ⟨by omega, by omega, fun i e => by cases e; exact ⟨e1, by omega, by omega⟩⟩ rfl (W1.new nD)
          · walk_at "go3"
            rename_i D nD
            have e4 : (2 : Int) ^ (j + 1).toNat = 2 * 2 ^ j.toNat := by
              rw [show (j + 1).toNat = j.toNat + 1 by omega, Int.pow_succ, Int.mul_comm]
            exact k _ _ (.num l h (some (j + 1))) ⟨D, rfl, upd_same⟩ ⟨by omega, by omega, fun i e => by cases e; exact ⟨by omega, by omega, by omega⟩⟩ rfl (W1.new nD)
    | bits m =>
      obtain ⟨q, rfl, hq⟩ := hx1
      walk_at "go3"
      refine ⟨p, _, rfl, W1.1, by decide, by decide, fun r2 H2 b0 b1 W2 => ?_⟩
      walk_at "go3"
      rename_i D nD
      exact k _ _ (.bits (1 + r2)) ⟨D, rfl, upd_same⟩ ⟨by omega, by omega⟩ rfl ((W1.trans W2).new nD)
    | call n =>
      obtain ⟨q, rfl, hq⟩ := hx1
      walk_at "go3"
      rename_i N nN
      have W0 := (Went.rfl' W1.1).new (o := HO.lst []) nN
      have Np := W1.1.ne nN
      refine ⟨p, N, [], rfl, W0.1, upd_same, Np, by decide, st_fresh W1.1 W0 nN, fun z H' hz _ W2 _ st => ?_⟩
      walk_at "go3"
      rename_i D nD
      exact k _ _ (.call z) ⟨D, rfl, upd_same⟩ hz rfl (W1.trans ((Went2.went W0 nN W2 st).new nD))
def spChI : Sp := fun vs H Q _ => ∃ (p : Addr) (x : V) (f : Flat) (wv : Option Int), vs = [.ref p, x] ∧ StOk H p ∧ SmpT H x (.items f wv) ∧ SmpD 7 (.items f wv) ∧ ∀ v H' g, SmpT H' v g → SmpD 8 g → Went p H H' → Q v H'
theorem ok_chI (T : Txt K mg a) : FnOk P w K mg base CX0 4 a._law_changed_simple.f a._law_changed_simple.fd ["_law_state", "_law_term"] spChI := by
  have G__law_pull : FnOk P w K mg base CX0 1 a._law_pull.f a._law_pull.fd ["_law_state", "_law_many"] spPull := ok_pull T
  have G__law_name : FnOk P w K mg base CX0 2 a._law_name.f a._law_name.fd ["_law_state", "_law_taken"] spName := ok_name T
  have G__law_changed_simple : FnOk P w K mg base CX0 3 a._law_changed_simple.f a._law_changed_simple.fd ["_law_state", "_law_term"] spChF := ok_chF T
  have sc : FnScope ["_law_state", "_law_term", "_law_turn"] ["_law_state", "_law_term"] (defScope (top 45)) := ⟨rfl, rfl, rfl, by decide +kernel, rfl, by decide +kernel, by decide +kernel⟩
  refine T._law_changed_simple.ok sc (fun vs H Q E h => ?_) (fun cdv A outer s H vs Q E hr h => ?_)
  · obtain ⟨p, x, f, wv, rfl, _⟩ := h
    rfl
  · obtain ⟨p, x, f, wv, rfl, S, hx, hd, k⟩ := h
    refine ⟨_, (pss_cons (ps_set (i := 2) sc.nd rfl (by first | exact Or.inl rfl | exact Or.inr rfl) (pe_call G__law_pull (hr.mono (by first | decide | omega)) rfl T._law_pull.mg T._law_pull.kp T._law_pull.b .nil pass0 (pa_cons (pv 0) (pa_cons pe_int pa_nil))))
      (pss_cons (ps_if (pt_cmpR op_eq (pe_ix ix_list (pv 1) pe_int (fun _ _ => rfl)) pe_str (nomark _))
      (pss_cons (ps_if (pt_cmpR op_eq (pv 2) pe_int (nomark _))
      (pss_one (ps_ret (pe_lst (pa_cons pe_str (pa_cons (pe_op op_sub (pe_ix ix_list (pv 1) pe_int (fun _ _ => rfl)) pe_int) (pa_cons (pe_op op_sub (pe_ix ix_list (pv 1) pe_int (fun _ _ => rfl)) pe_int) (pa_cons (pe_ix ix_list (pv 1) pe_int (fun _ _ => rfl)) pa_nil)))))))
      pss_nil)
      (pss_cons (ps_if (PW.pt (pw_or (pt_cmpR op_eq (pv 2) pe_int (nomark _)) (pw_or1 (pt_cmpR op_isN (pe_ix ix_list (pv 1) pe_int (fun _ _ => rfl)) pe_non (nomark _)))))
      (pss_one (ps_ret (pe_lst (pa_cons pe_str (pa_cons (pe_ix ix_list (pv 1) pe_int (fun _ _ => rfl)) (pa_cons (pe_op op_add (pe_op op_add (pe_ix ix_list (pv 1) pe_int (fun _ _ => rfl)) pe_int) (pe_op op_fdivN (pe_op op_sub (pe_ix ix_list (pv 1) pe_int (fun _ _ => rfl)) (pe_ix ix_list (pv 1) pe_int (fun _ _ => rfl))) pe_int)) (pa_cons (pe_ix ix_list (pv 1) pe_int (fun _ _ => rfl)) pa_nil)))))))
      pss_nil)
      (pss_one (ps_ret (pe_lst (pa_cons pe_str (pa_cons (pe_ix ix_list (pv 1) pe_int (fun _ _ => rfl)) (pa_cons (pe_ix ix_list (pv 1) pe_int (fun _ _ => rfl)) (pa_cons (pe_op op_add (pe_ix ix_list (pv 1) pe_int (fun _ _ => rfl)) pe_int) pa_nil)))))))))
      pss_nil)
      (pss_cons (ps_if (pt_cmpR op_eq (pe_ix ix_list (pv 1) pe_int (fun _ _ => rfl)) pe_str (nomark _))
      (pss_one (ps_ret (pe_lst (pa_cons pe_str (pa_cons (pe_op op_add pe_int (pe_call G__law_pull (hr.mono (by first | decide | omega)) rfl T._law_pull.mg T._law_pull.kp T._law_pull.b .nil pass0 (pa_cons (pv 0) (pa_cons pe_int pa_nil)))) pa_nil)))))
      pss_nil)
      (pss_cons (ps_if (pt_cmpR op_eq (pe_ix ix_list (pv 1) pe_int (fun _ _ => rfl)) pe_str (nomark _))
      (pss_cons (ps_if (pt_cmpR op_eq (pv 2) pe_int (nomark _))
      (pss_one (ps_ret (pe_lst (pa_cons pe_str (pa_cons (pe_ix ix_list (pv 1) pe_int (fun _ _ => rfl)) (pa_cons (pe_ix ix_list (pe_lst (pa_cons pe_non (pa_cons pe_int (pa_cons pe_int (pa_cons pe_int pa_nil))))) (pe_call G__law_pull (hr.mono (by first | decide | omega)) rfl T._law_pull.mg T._law_pull.kp T._law_pull.b .nil pass0 (pa_cons (pv 0) (pa_cons pe_int pa_nil))) (fun _ _ => rfl)) pa_nil))))))
      pss_nil)
      (pss_one (ps_ret (pe_lst (pa_cons pe_str (pa_cons (pe_call G__law_changed_simple (hr.mono (by first | decide | omega)) rfl T._law_changed_simple.mg T._law_changed_simple.kp T._law_changed_simple.b .nil pass0 (pa_cons (pv 0) (pa_cons (pe_ix ix_list (pv 1) pe_int (fun _ _ => rfl)) pa_nil))) (pa_cons (pe_ix ix_list (pv 1) pe_int (fun _ _ => rfl)) pa_nil)))))))
      pss_nil)
      (pss_one (ps_ret (pe_lst (pa_cons pe_str (pa_cons (pe_call G__law_name (hr.mono (by first | decide | omega)) rfl T._law_name.mg T._law_name.kp T._law_name.b .nil pass0 (pa_cons (pv 0) (pa_cons (pe_lst pa_nil) pa_nil))) pa_nil))))))))), ?_⟩
    walk_at "go3"
    refine ⟨p, _, rfl, S, by decide, by decide, fun r1 H1 a0 a1 W1 => ?_⟩
    obtain ⟨q, y, rfl, hq, hf⟩ := SmpT.sk (f := .items f wv) hx (Went.sk S W1)
    walk_at "go3"
    refine i_itd (fun e => ?_) (fun e => ?_)
    · walk_at "go3"
      rename_i L nL
      have X3 := W1.new (o := HO.lst [V.non, .int 1, .int 2, .int 3]) nL
      have Lp := W1.1.ne nL
      have hf3 := hf.sk (Same.sk (same_new (o := HO.lst [V.non, .int 1, .int 2, .int 3]) same_rfl nL))
      refine ⟨p, _, rfl, X3.1, by decide, by decide, fun r2 H4 b0 b1 W4 => ?_⟩
      obtain ⟨w2, hv, hw⟩ := optW b0 b1
      refine i_ixl (W4.get Lp upd_same) hv ?_
      have hf4 := hf3.sk (Went.sk X3.1 W4)
      walk_at "go3"
      rename_i D nD
      exact k _ _ (.items f w2) ⟨D, y, rfl, upd_same, hf4.sk (Same.sk (same_new same_rfl nD))⟩ ⟨hd.1.up (by decide), hw⟩ ((X3.trans W4).new nD)
    · walk_at "go3"
      refine ⟨p, y, f, rfl, W1.1, hf, hd.1, fun v H2 g hg hgd _ W2 => ?_⟩
      have hq2 := Went.sk W1.1 W2 _ _ _ hq
      walk_at "go3"
      rename_i D nD
      exact k _ _ (.items g wv) ⟨D, v, rfl, upd_same, hg.sk (Same.sk (same_new same_rfl nD))⟩ ⟨hgd, hd.2⟩ ((W1.trans W2).new nD)
def spChS : Sp := fun vs H Q _ => ∃ (p : Addr) (x : V) (s : Smp), vs = [.ref p, x] ∧ StOk H p ∧ SmpT H x s ∧ SmpD 7 s ∧ ∀ v H' g, SmpT H' v g → SmpD 8 g → Went p H H' → Q v H'
theorem ok_chS (T : Txt K mg a) : FnOk P w K mg base CX0 4 a._law_changed_simple.f a._law_changed_simple.fd ["_law_state", "_law_term"] spChS := fn_imp (fn_or (fn_up (ok_chF T) (by decide)) (ok_chI T)) fun vs H Q E ⟨p, x, s, hv, S, hx, hd, k⟩ => by
  cases s with
  | flat f => exact .inl ⟨p, x, f, hv, S, hx, hd, fun v H' g h1 h2 _ W => k v H' (.flat g) h1 h2 W⟩
  | items f wv => exact .inr ⟨p, x, f, wv, hv, S, hx, hd, k⟩
def spChN : Sp := fun vs H Q _ => ∃ (p : Addr) (x : V) (t : Inn), vs = [.ref p, x] ∧ StOk H p ∧ InnT H x t ∧ InnD 7 t ∧ ∀ v H' g, SmpT H' v g → SmpD 8 g → Went p H H' → Q v H'
theorem ok_chN (T : Txt K mg a) : FnOk P w K mg base CX0 6 a._law_changed_inner.f a._law_changed_inner.fd ["_law_state", "_law_term"] spChN := by
  have G__law_pull : FnOk P w K mg base CX0 1 a._law_pull.f a._law_pull.fd ["_law_state", "_law_many"] spPull := ok_pull T
  have G__law_simple : FnOk P w K mg base CX0 5 a._law_simple.f a._law_simple.fd ["_law_state", "_law_names", "_law_scale"] spSimple2 := ok_simple2 T
  have G__law_changed_simple : FnOk P w K mg base CX0 4 a._law_changed_simple.f a._law_changed_simple.fd ["_law_state", "_law_term"] spChS := ok_chS T
  have sc : FnScope ["_law_state", "_law_term"] ["_law_state", "_law_term"] (defScope (top 46)) := ⟨rfl, rfl, rfl, by decide +kernel, rfl, by decide +kernel, by decide +kernel⟩
  refine T._law_changed_inner.ok sc (fun vs H Q E h => ?_) (fun cdv A outer s H vs Q E hr h => ?_)
  · obtain ⟨p, x, t, rfl, _⟩ := h
    rfl
  · obtain ⟨p, x, t, rfl, S, hx, hd, k⟩ := h
    refine ⟨_, (pss_cons (ps_if (PW.pt (pw_or (pt_cmpR op_isN (pv 1) pe_non (nomark _)) (pw_or (pt_cmpR op_eq (pe_ix ix_list (pv 1) pe_int (fun _ _ => rfl)) pe_str (nomark _)) (pw_or1 (pt_cmpR op_eq (pe_call G__law_pull (hr.mono (by first | decide | omega)) rfl T._law_pull.mg T._law_pull.kp T._law_pull.b .nil pass0 (pa_cons (pv 0) (pa_cons pe_int pa_nil))) pe_int (nomark _))))))
      (pss_one (ps_ret (pe_call G__law_simple (hr.mono (by first | decide | omega)) rfl T._law_simple.mg T._law_simple.kp T._law_simple.b .nil pass0 (pa_cons (pv 0) (pa_cons (pe_lst (pa_cons pe_str (pa_cons pe_str pa_nil))) (pa_cons pe_int pa_nil))))))
      pss_nil)
      (pss_one (ps_ret (pe_call G__law_changed_simple (hr.mono (by first | decide | omega)) rfl T._law_changed_simple.mg T._law_changed_simple.kp T._law_changed_simple.b .nil pass0 (pa_cons (pv 0) (pa_cons (pv 1) pa_nil)))))), ?_⟩
    have new : ∀ (H1 : Hp) (N : Addr), Went p H H1 → H1 N = none → spSimple2 [.ref p, .ref N, .int 6] (upd H1 N (.lst [.str "ab", .str "b"])) (fun v H' => Q v H') E := fun H1 N W1 nN => by
      have W0 := (Went.rfl' W1.1).new (o := HO.lst [V.str "ab", .str "b"]) nN
      exact ⟨p, N, ["ab", "b"], rfl, W0.1, W1.1.ne nN, upd_same, by decide, by decide, fun v H' s hs hd W => k v H' s (SmpT.sk (f := s) hs (Same.sk Fr.sub)) (hd.up (by decide)) (W1.trans (W0.trans W))⟩
    cases t with
    | non =>
      cases hx
      walk_at "go3"
      rename_i N nN
      exact new H N (Went.rfl' S) nN
    | nothing =>
      obtain ⟨q, rfl, hq⟩ := hx
      walk_at "go3"
      rename_i N nN
      exact new H N (Went.rfl' S) nN
    | smp s =>
      have go : ∀ (z : Str) (xs : List V) (q : Addr), x = .ref q → H q = some (.lst (.str z :: xs)) → z ≠ ("nothing" : Str) → True := fun _ _ _ _ _ _ => trivial
      have key : ∃ q z xs, x = .ref q ∧ H q = some (.lst (.str z :: xs)) ∧ z ≠ ("nothing" : Str) := by
        cases s with
        | flat f =>
          cases f <;> (obtain ⟨q, rfl, hq⟩ := hx; exact ⟨q, _, _, rfl, hq, by decide⟩)
        | items f wv =>
          obtain ⟨q, y, rfl, hq, _⟩ := hx
          exact ⟨q, _, _, rfl, hq, by decide⟩
      obtain ⟨q, z, xs, rfl, hq, hz⟩ := key
      walk_at "go3"
      refine i_ixl hq (atI_nat (j := 0) rfl) ?_
      walk_at "go3"
      refine i_no (decide_eq_false fun e => hz (V.str.inj e)) ?_
      walk_at "go3"
      refine ⟨p, _, rfl, S, by decide, by decide, fun r1 H1 a0 a1 W1 => ?_⟩
      walk_at "go3"
      refine i_itd (fun e => ?_) (fun e => ?_)
      · walk_at "go3"
        rename_i N nN
        exact new H1 N W1 nN
      · walk_at "go3"
        exact ⟨p, .ref q, s, rfl, W1.1, SmpT.sk (f := s) hx (Went.sk S W1), hd, fun v H' g h1 h2 W => k v H' g h1 h2 (W1.trans W)⟩
end
end Me
set_option maxHeartbeats 8000000
namespace Me
open PySem L2


end Me
local macro_rules | `(tactic| walk_at "go3") => `(tactic| repeat (first | walk_at "go1" | (with_reducible refine And.intro (a := L2.V.non = L2.V.non) rfl ?_) | ((with_reducible refine' Me.i_yes ?_ ?_); (first | rfl | exact decide_eq_true rfl)) | ((with_reducible refine' Me.i_no ?_ ?_); (first | rfl | exact decide_eq_false (fun z => absurd (L2.V.str.inj z) (by decide)) | (simp; done))) | with_reducible refine Me.i_make ?_))
namespace Me
open PySem L2
theorem went_same {p : Addr} {H H' : Hp} (S : StOk H p) (s : Same H H') : Went p H H' := ⟨S.keep s, fun b o _ e => s b o e, fun L h => h.keep s⟩
theorem erase_mapR (l : List Addr) (j : Nat) : (l.map V.ref).eraseIdx j = (l.eraseIdx j).map V.ref := by
  induction l generalizing j with
  | nil => simp
  | cons a r ih => cases j with
    | zero => simp
    | succ j => simp [ih]
theorem apart_ext {l : List Str} {j : Nat} {w : Str} (s : Str) (h : Apart l) (hw : l[j]? = some w) : Apart (l.set j (w ++ s)) := by
  obtain ⟨jl, e⟩ := List.getElem?_eq_some_iff.mp hw
  refine List.pairwise_iff_getElem.mpr fun i k hi hk lt => ?_
  rw [List.length_set] at hi hk
  have hp := List.pairwise_iff_getElem.mp h i k hi hk lt
  rw [List.getElem_set, List.getElem_set]
  split
  · rename_i q
    subst q
    rw [if_neg (by omega), clash_comm]
    exact clash_add s (by have h2 := hp; rw [e] at h2; exact h2)
  · split
    · rename_i q
      subst q
      exact clash_add s (by have h2 := hp; rw [e, clash_comm] at h2; exact h2)
    · exact hp
/-- copies of rows, at addresses that were not there in H0 -/
structure Cp (p : Addr) (H0 Hc : Hp) (D : Addr) (rs : List Addr) (cs : List (List V)) : Prop where
  hD : Hc D = some (.lst (rs.map V.ref))
  len : rs.length = cs.length
  nd : rs.Nodup
  fr : ∀ r ∈ rs, H0 r = none ∧ r ≠ D
  at_ : ∀ (j : Nat) r c, rs[j]? = some r → cs[j]? = some c → Hc r = some (.lst c)
  D0 : H0 D = none
  w : Went p H0 Hc
theorem nd_ne {rs : List Addr} (h : rs.Nodup) {i j : Nat} {r : Addr} (h1 : rs[i]? = some r) (h2 : rs[j]? = some r) : i = j := by
  obtain ⟨a1, b1⟩ := List.getElem?_eq_some_iff.mp h1
  obtain ⟨a2, b2⟩ := List.getElem?_eq_some_iff.mp h2
  rcases Nat.lt_trichotomy i j with l | l | l
  · exact absurd (b1.trans b2.symm) (List.pairwise_iff_getElem.mp h i j a1 a2 l)
  · exact l
  · exact absurd (b2.trans b1.symm) (List.pairwise_iff_getElem.mp h j i a2 a1 l)
theorem Cp.went {p D : Addr} {H0 H1 H2 : Hp} {rs : List Addr} {cs : List (List V)} (h : Cp p H0 H1 D rs cs) (S : StOk H0 p) (w : Went p H1 H2) : Cp p H0 H2 D rs cs :=
  ⟨w.get (S.ne h.D0) h.hD, h.len, h.nd, h.fr, fun j r c h1 h2 => w.get (S.ne (h.fr r (List.mem_of_getElem? h1)).1) (h.at_ j r c h1 h2), h.D0, h.w.trans w⟩
theorem Cp.went2 {p t D : Addr} {H0 H1 H2 : Hp} {rs : List Addr} {cs : List (List V)} (h : Cp p H0 H1 D rs cs) (S : StOk H0 p) (nt : H0 t = none) (tD : t ≠ D) (tr : ∀ r ∈ rs, t ≠ r) (w : Went2 p t H1 H2) (st : ∀ L, StAt H1 p L → StAt H2 p L) : Cp p H0 H2 D rs cs :=
  ⟨w.2 _ _ (S.ne h.D0) tD.symm h.hD, h.len, h.nd, h.fr, fun j r c h1 h2 => w.2 _ _ (S.ne (h.fr r (List.mem_of_getElem? h1)).1) (tr r (List.mem_of_getElem? h1)).symm (h.at_ j r c h1 h2), h.D0, Went2.went h.w nt w st⟩
theorem Cp.set {p D r : Addr} {H0 Hc : Hp} {rs : List Addr} {cs : List (List V)} {j : Nat} {c : List V} (h : Cp p H0 Hc D rs cs) (S : StOk H0 p) (hr : rs[j]? = some r) : Cp p H0 (upd Hc r (.lst c)) D rs (cs.set j c) := by
  have hm := List.mem_of_getElem? hr
  obtain ⟨n0, nD⟩ := h.fr r hm
  refine ⟨by rw [upd_ne nD.symm]; exact h.hD, by rw [List.length_set]; exact h.len, h.nd, h.fr, fun i u d h1 h2 => ?_, h.D0, Went.wr S h.w n0 (S.ne n0)⟩
  by_cases e : i = j
  · subst e
    rw [hr] at h1
    cases h1
    have hi : i < cs.length := by rw [← h.len]; exact (List.getElem?_eq_some_iff.mp hr).1
    rw [List.getElem?_set_self hi] at h2
    cases h2
    exact upd_same
  · rw [List.getElem?_set_ne (fun z => e z.symm)] at h2
    have ur : u ≠ r := fun z => e (nd_ne h.nd (by rw [z] at h1; exact h1) hr)
    rw [upd_ne ur]
    exact h.at_ i u d h1 h2
/-- they are these ways -/
def CW (H : Hp) (cs : List (List V)) (ws : List WayT) : Prop := cs.length = ws.length ∧ ∀ (j : Nat) c, cs[j]? = some c → ∃ t y, ws[j]? = some t ∧ c = [.str t.w, .str t.n, .bl t.d, y] ∧ InnT H y t.k
def CP (H : Hp) (cs : List (List V)) (ws : List PrtT) : Prop := cs.length = ws.length ∧ ∀ (j : Nat) c, cs[j]? = some c → ∃ t y, ws[j]? = some t ∧ c = [.str t.w, .str t.n, y] ∧ InnT H y t.k
theorem CW.sk {H H' : Hp} {cs : List (List V)} {ws : List WayT} (h : CW H cs ws) (e : StrKeep H H') : CW H' cs ws := ⟨h.1, fun j c hc => by
  obtain ⟨t, y, a, b, d⟩ := h.2 j c hc
  exact ⟨t, y, a, b, d.sk e⟩⟩
theorem CP.sk {H H' : Hp} {cs : List (List V)} {ws : List PrtT} (h : CP H cs ws) (e : StrKeep H H') : CP H' cs ws := ⟨h.1, fun j c hc => by
  obtain ⟨t, y, a, b, d⟩ := h.2 j c hc
  exact ⟨t, y, a, b, d.sk e⟩⟩
theorem CW.set {H : Hp} {cs : List (List V)} {ws : List WayT} {j : Nat} {t : WayT} {y : V} (h : CW H cs ws) (hy : InnT H y t.k) : CW H (cs.set j [.str t.w, .str t.n, .bl t.d, y]) (ws.set j t) := by
  refine ⟨by rw [List.length_set, List.length_set]; exact h.1, fun i c hc => ?_⟩
  by_cases e : j = i
  · subst e
    rw [List.getElem?_set] at hc ⊢
    split at hc
    · rename_i q
      split at hc
      · rename_i q2
        cases hc
        rw [if_pos rfl, if_pos (by rw [← h.1]; exact q2)]
        exact ⟨t, y, rfl, rfl, hy⟩
      · cases hc
    · rename_i q; exact absurd rfl q
  · rw [List.getElem?_set_ne e] at hc ⊢
    exact h.2 i c hc
theorem CP.set {H : Hp} {cs : List (List V)} {ws : List PrtT} {j : Nat} {t : PrtT} {y : V} (h : CP H cs ws) (hy : InnT H y t.k) : CP H (cs.set j [.str t.w, .str t.n, y]) (ws.set j t) := by
  refine ⟨by rw [List.length_set, List.length_set]; exact h.1, fun i c hc => ?_⟩
  by_cases e : j = i
  · subst e
    rw [List.getElem?_set] at hc ⊢
    split at hc
    · rename_i q
      split at hc
      · rename_i q2
        cases hc
        rw [if_pos rfl, if_pos (by rw [← h.1]; exact q2)]
        exact ⟨t, y, rfl, rfl, hy⟩
      · cases hc
    · rename_i q; exact absurd rfl q
  · rw [List.getElem?_set_ne e] at hc ⊢
    exact h.2 i c hc
theorem Cp.ways {p D : Addr} {H0 Hc : Hp} {rs : List Addr} {cs : List (List V)} {ws : List WayT} (h : Cp p H0 Hc D rs cs) (hw : CW Hc cs ws) : AllO WayR Hc (rs.map V.ref) ws := by
  refine ⟨by rw [List.length_map, h.len, hw.1], fun i x hx => ?_⟩
  rw [List.getElem?_map] at hx
  cases hr : rs[i]? with
  | none => rw [hr] at hx; cases hx
  | some r =>
    rw [hr] at hx
    cases hx
    have hi : i < cs.length := by rw [← h.len]; exact (List.getElem?_eq_some_iff.mp hr).1
    have hc : cs[i]? = some cs[i] := List.getElem?_eq_getElem hi
    obtain ⟨t, y, ht, e, hy⟩ := hw.2 i _ hc
    exact ⟨t, ht, r, y, rfl, by rw [h.at_ i r _ hr hc, e], hy⟩
theorem Cp.parts {p D : Addr} {H0 Hc : Hp} {rs : List Addr} {cs : List (List V)} {ws : List PrtT} (h : Cp p H0 Hc D rs cs) (hw : CP Hc cs ws) : AllO PrtR Hc (rs.map V.ref) ws := by
  refine ⟨by rw [List.length_map, h.len, hw.1], fun i x hx => ?_⟩
  rw [List.getElem?_map] at hx
  cases hr : rs[i]? with
  | none => rw [hr] at hx; cases hx
  | some r =>
    rw [hr] at hx
    cases hx
    have hi : i < cs.length := by rw [← h.len]; exact (List.getElem?_eq_some_iff.mp hr).1
    have hc : cs[i]? = some cs[i] := List.getElem?_eq_getElem hi
    obtain ⟨t, y, ht, e, hy⟩ := hw.2 i _ hc
    exact ⟨t, ht, r, y, rfl, by rw [h.at_ i r _ hr hc, e], hy⟩
/-- what is inside stays when a row is written -/
theorem InnT.row {H : Hp} {v : V} {k : Inn} {r : Addr} {z n : Str} {x : V} {l : List V} {o : HO} (h : InnT H v k) (hr : H r = some (.lst (.str z :: .str n :: x :: l))) : InnT (upd H r o) v k := by
  have fl : ∀ v f, FlatT H v f → FlatT (upd H r o) v f := fun v f h => by
    cases f <;> (obtain ⟨q, rfl, hq⟩ := h; exact ⟨q, rfl, by rw [upd_ne (fun e => by rw [e, hr] at hq; simp at hq)]; exact hq⟩)
  cases k with
  | non => exact h
  | nothing => obtain ⟨q, rfl, hq⟩ := h; exact ⟨q, rfl, by rw [upd_ne (fun e => by rw [e, hr] at hq; simp at hq)]; exact hq⟩
  | smp s =>
    cases s with
    | flat f => exact fl v f h
    | items f wv =>
      obtain ⟨q, y, rfl, hq, hf⟩ := h
      refine ⟨q, y, rfl, ?_, fl y f hf⟩
      rw [upd_ne (fun e => ?_)]
      · exact hq
      · rw [e, hr] at hq
        obtain ⟨b, e2⟩ : ∃ b, y = .ref b := by cases f <;> (obtain ⟨q, e, _⟩ := hf; exact ⟨q, e⟩)
        subst e2
        simp at hq
theorem CW.row {H : Hp} {cs : List (List V)} {ws : List WayT} {r : Addr} {z n : Str} {x : V} {l : List V} {o : HO} (h : CW H cs ws) (hr : H r = some (.lst (.str z :: .str n :: x :: l))) : CW (upd H r o) cs ws := ⟨h.1, fun j c hc => by
  obtain ⟨t, y, a, b, d⟩ := h.2 j c hc
  exact ⟨t, y, a, b, d.row hr⟩⟩
theorem CP.row {H : Hp} {cs : List (List V)} {ws : List PrtT} {r : Addr} {z n : Str} {x : V} {l : List V} {o : HO} (h : CP H cs ws) (hr : H r = some (.lst (.str z :: .str n :: x :: l))) : CP (upd H r o) cs ws := ⟨h.1, fun j c hc => by
  obtain ⟨t, y, a, b, d⟩ := h.2 j c hc
  exact ⟨t, y, a, b, d.row hr⟩⟩
theorem copy_le {K : PySem.W.Frag} {tl te : TE} {σ : L2.St} {H : Hp} {Q : VK} {a : Addr} {k : Nat} {xs : List V} (cs : List (List V)) (htl : ∀ R : VK, R (.ref a) H → tl σ H R) (ha : H a = some (.lst xs)) (sm : xs.length < sizeLine) (hw : ∀ x, wipe ((wipe σ [k]).set k (some x)) [k] = wipe σ [k])
    (hl : xs.length = cs.length) (hx : ∀ (i : Nat) x, xs[i]? = some x → ∃ r c, x = .ref r ∧ cs[i]? = some c ∧ H r = some (.lst c))
    (st : ∀ r c H1 (R : VK), H1 r = some (.lst c) → (∀ l, H1 l = none → R (.ref l) (upd H1 l (.lst c))) → te ((wipe σ [k]).set k (some (.ref r))) H1 R)
    (kk : ∀ D (rs : List Addr) H', H D = none → Same H H' → H' D = some (.lst (rs.map V.ref)) → rs.length = cs.length → rs.Nodup → (∀ r ∈ rs, H r = none ∧ r ≠ D) → (∀ (j : Nat) r c, rs[j]? = some r → cs[j]? = some c → H' r = some (.lst c)) → Q (.ref D) H') : tLc (iList K tl) (gName k) tYes te [k] σ H Q := by
  refine htl _ ⟨a, rfl, ⟨_, SqL.of ha⟩, fun D nD => ?_⟩
  refine lc_list (xs := xs) (fun i H' => Same H H' ∧ ∃ rs : List Addr, H' D = some (.lst (rs.map V.ref)) ∧ rs.length = i ∧ rs.Nodup ∧ (∀ r ∈ rs, H r = none ∧ r ≠ D) ∧ ∀ (j : Nat) r c, rs[j]? = some r → cs[j]? = some c → H' r = some (.lst c))
    ⟨same_new same_rfl nD, [], upd_same, rfl, .nil, (fun r h => by cases h), fun j r c h => by simp at h⟩ (fun i H1 _ p => SqL.of (p.1 _ _ ha)) ?_ ?_
  · rintro i x H1 hi ⟨s1, rs, hD, hlen, hnd, hfr, hat⟩
    obtain ⟨r, c, rfl, hc, hr⟩ := hx i x hi
    refine ⟨hw _, ?_⟩
    unfold tYes
    with_reducible refine L2.iteT ?_
    refine st r c H1 _ (s1 _ _ hr) fun l nl => ?_
    have lt : i < xs.length := (List.getElem?_eq_some_iff.mp hi).1
    have lD : l ≠ D := fun e => by rw [e, hD] at nl; cases nl
    have lH : H l = none := by
      cases e : H l with
      | none => rfl
      | some o => rw [s1 _ _ e] at nl; cases nl
    have hlr : ∀ u ∈ rs, u ≠ l := fun u hu e => by
      obtain ⟨j, hj⟩ := List.getElem?_of_mem hu
      have hjc : j < cs.length := by rw [← hl]; have := (List.getElem?_eq_some_iff.mp hj).1; omega
      rw [← e, hat j u _ hj (List.getElem?_eq_getElem hjc)] at nl
      cases nl
    refine ⟨rs.map V.ref, by rw [upd_ne lD.symm]; exact hD, by rw [List.length_map]; omega, ⟨fun b o hb => ?_, rs ++ [l], by rw [upd_same, List.map_append]; rfl, by rw [List.length_append, hlen]; rfl, ?_, fun u hu => ?_, fun j u d hj hd => ?_⟩⟩
    · rw [upd_ne (ne_of_none hb nD), upd_ne (ne_of_none (s1 _ _ hb) nl)]
      exact s1 _ _ hb
    · exact List.nodup_append.mpr ⟨hnd, by simp, fun u hu y hy e => by
        rw [List.mem_singleton] at hy
        subst hy
        exact hlr u hu e⟩
    · rcases List.mem_append.mp hu with h | h
      · exact hfr u h
      · rw [List.mem_singleton.mp h]; exact ⟨lH, lD⟩
    · by_cases q : j < rs.length
      · rw [List.getElem?_append_left q] at hj
        have hu := List.mem_of_getElem? hj
        rw [upd_ne (hfr u hu).2, upd_ne (hlr u hu)]
        exact hat j u d hj hd
      · rw [List.getElem?_append_right (by omega)] at hj
        have z : j - rs.length = 0 := by
          rcases Nat.eq_zero_or_pos (j - rs.length) with h | h
          · exact h
          · rw [List.getElem?_eq_none (by show 1 ≤ _; omega)] at hj; cases hj
        rw [z] at hj
        cases hj
        have : j = i := by omega
        subst this
        rw [hc] at hd
        cases hd
        rw [upd_ne lD, upd_same]
  · rintro H1 ⟨s1, rs, hD, hlen, hnd, hfr, hat⟩
    exact kk D rs H1 nD s1 hD (hlen.trans hl) hnd hfr hat
theorem contW {H : Hp} : ∀ {xs : List V} {ws : List WayT}, AllO WayR H xs ws → ∃ cs, CW H cs ws ∧ ∀ (i : Nat) x, xs[i]? = some x → ∃ r c, x = .ref r ∧ cs[i]? = some c ∧ H r = some (.lst c)
  | [], [], _ => ⟨[], ⟨rfl, fun j c h => by simp at h⟩, fun i x h => by simp at h⟩
  | [], _ :: _, h => by cases h.1
  | _ :: _, [], h => by cases h.1
  | x :: xs, t :: ws, h => by
    obtain ⟨t', ht', r, y, rfl, hr, hy⟩ := h.2 0 x rfl
    cases ht'
    obtain ⟨cs, h1, h2⟩ := contW (xs := xs) (ws := ws) ⟨Nat.succ.inj h.1, fun i x hx => h.2 (i + 1) x hx⟩
    refine ⟨[.str t.w, .str t.n, .bl t.d, y] :: cs, ⟨by rw [List.length_cons, List.length_cons, h1.1], fun j c hc => ?_⟩, fun i x hx => ?_⟩
    · cases j with
      | zero => cases hc; exact ⟨t, y, rfl, rfl, hy⟩
      | succ j => exact h1.2 j c hc
    · cases i with
      | zero => cases hx; exact ⟨r, _, rfl, rfl, hr⟩
      | succ i => exact h2 i x hx
theorem contP {H : Hp} : ∀ {xs : List V} {ws : List PrtT}, AllO PrtR H xs ws → ∃ cs, CP H cs ws ∧ ∀ (i : Nat) x, xs[i]? = some x → ∃ r c, x = .ref r ∧ cs[i]? = some c ∧ H r = some (.lst c)
  | [], [], _ => ⟨[], ⟨rfl, fun j c h => by simp at h⟩, fun i x h => by simp at h⟩
  | [], _ :: _, h => by cases h.1
  | _ :: _, [], h => by cases h.1
  | x :: xs, t :: ws, h => by
    obtain ⟨t', ht', r, y, rfl, hr, hy⟩ := h.2 0 x rfl
    cases ht'
    obtain ⟨cs, h1, h2⟩ := contP (xs := xs) (ws := ws) ⟨Nat.succ.inj h.1, fun i x hx => h.2 (i + 1) x hx⟩
    refine ⟨[.str t.w, .str t.n, y] :: cs, ⟨by rw [List.length_cons, List.length_cons, h1.1], fun j c hc => ?_⟩, fun i x hx => ?_⟩
    · cases j with
      | zero => cases hc; exact ⟨t, y, rfl, rfl, hy⟩
      | succ j => exact h1.2 j c hc
    · cases i with
      | zero => cases hx; exact ⟨r, _, rfl, rfl, hr⟩
      | succ i => exact h2 i x hx
theorem map_set_same {α β : Type} {f : α → β} {ws : List α} {j : Nat} {t u : α} (h : ws[j]? = some t) (e : f u = f t) : (ws.set j u).map f = ws.map f := by
  refine List.ext_getElem? fun i => ?_
  rw [List.getElem?_map, List.getElem?_map]
  by_cases q : j = i
  · subst q
    have l := (List.getElem?_eq_some_iff.mp h).1
    rw [List.getElem?_set_self l, h]
    exact congrArg some e
  · rw [List.getElem?_set_ne q]
theorem nodup_set {l : List Str} {j : Nat} {z : Str} (h : l.Nodup) (n : z ∉ l) : (l.set j z).Nodup := by
  refine List.pairwise_iff_getElem.mpr fun i k hi hk lt e => ?_
  rw [List.length_set] at hi hk
  rw [List.getElem_set, List.getElem_set] at e
  split at e
  · split at e
    · omega
    · exact n (by rw [e]; exact List.getElem_mem hk)
  · split at e
    · exact n (by rw [← e]; exact List.getElem_mem hi)
    · exact List.pairwise_iff_getElem.mp h i k hi hk lt e
theorem WayD.up {k m : Int} {t : WayT} (h : WayD k t) (l : k ≤ m) : WayD m t := ⟨h.1, h.2.1, h.2.2.1.up l, h.2.2.2⟩
theorem PrtD.up {k m : Int} {t : PrtT} (h : PrtD k t) (l : k ≤ m) : PrtD m t := ⟨h.1, h.2.1.up l, h.2.2⟩
theorem choice_set {ws : List WayT} {j : Nat} {t u : WayT} (h : TrmD 7 (.choice ws)) (ht : ws[j]? = some t) (hu : WayD 8 u) (hn : u.n = t.n ∨ u.n ∉ ws.map (·.n)) (ha : Apart ((ws.set j u).map (·.w))) (hd : ∃ x ∈ ws.set j u, x.d = false) : TrmD 8 (.choice (ws.set j u)) := by
  obtain ⟨hl, hv, _, hnd, _⟩ := h
  refine ⟨by rw [List.length_set]; exact hl, fun x hx => ?_, hd, ?_, ha⟩
  · rcases List.mem_or_eq_of_mem_set hx with h | rfl
    · exact (hv x h).up (by decide)
    · exact hu
  · rcases hn with e | e
    · rw [map_set_same ht e]; exact hnd
    · rw [List.map_set]; exact nodup_set hnd e
theorem row_set {ws : List PrtT} {j : Nat} {t u : PrtT} (h : TrmD 7 (.row ws)) (ht : ws[j]? = some t) (hu : PrtD 8 u) (hn : u.n = t.n ∨ u.n ∉ ws.map (·.n)) (hl2 : t.w = ("" : Str) → j + 1 = ws.length → u.w = ("" : Str)) : TrmD 8 (.row (ws.set j u)) := by
  obtain ⟨hl, hv, ⟨tl, htl, hwl⟩, hnd⟩ := h
  refine ⟨by rw [List.length_set]; exact hl, fun x hx => ?_, ?_, ?_⟩
  · rcases List.mem_or_eq_of_mem_set hx with h | rfl
    · exact (hv x h).up (by decide)
    · exact hu
  · rw [List.getLast?_eq_getElem?, List.length_set]
    rw [List.getLast?_eq_getElem?] at htl
    have jl := (List.getElem?_eq_some_iff.mp ht).1
    by_cases q : j = ws.length - 1
    · subst q
      rw [ht] at htl
      cases htl
      exact ⟨u, List.getElem?_set_self jl, hl2 hwl (by omega)⟩
    · exact ⟨tl, by rw [List.getElem?_set_ne q]; exact htl, hwl⟩
  · rcases hn with e | e
    · rw [map_set_same ht e]; exact hnd
    · rw [List.map_set]; exact nodup_set hnd e
/-- one is put ahead -/
theorem ahead_at {α : Type} {l : List α} {j : Nat} {x : α} (i : Nat) : (x :: l.eraseIdx j)[i]? = if i = 0 then some x else if i - 1 < j then l[i - 1]? else l[i]? := by
  cases i with
  | zero => rfl
  | succ i =>
    rw [List.getElem?_cons_succ, List.getElem?_eraseIdx]
    rfl
theorem ahead_two {α β : Type} {l : List α} {m : List β} {j i : Nat} {x u : α} (hx : l[j]? = some x) (h : (x :: l.eraseIdx j)[i]? = some u) : ∃ n : Nat, l[n]? = some u ∧ ∀ y : β, m[j]? = some y → (y :: m.eraseIdx j)[i]? = m[n]? := by
  rw [ahead_at] at h
  by_cases i0 : i = 0
  · subst i0
    rw [if_pos rfl] at h
    cases h
    exact ⟨j, hx, fun y hy => by rw [hy]; rfl⟩
  · rw [if_neg i0] at h
    by_cases q : i - 1 < j
    · rw [if_pos q] at h
      exact ⟨i - 1, h, fun y hy => by rw [ahead_at, if_neg i0, if_pos q]⟩
    · rw [if_neg q] at h
      exact ⟨i, h, fun y hy => by rw [ahead_at, if_neg i0, if_neg q]⟩
theorem CW.ahead {H : Hp} {cs : List (List V)} {ws : List WayT} {j : Nat} {c : List V} {t : WayT} (h : CW H cs ws) (hc : cs[j]? = some c) (ht : ws[j]? = some t) : CW H (c :: cs.eraseIdx j) (t :: ws.eraseIdx j) := by
  have l1 := (List.getElem?_eq_some_iff.mp hc).1
  have l2 := (List.getElem?_eq_some_iff.mp ht).1
  refine ⟨by rw [List.length_cons, List.length_cons, List.length_eraseIdx, List.length_eraseIdx, if_pos l1, if_pos l2, h.1], fun i d hd => ?_⟩
  obtain ⟨n, hn, e⟩ := ahead_two (m := ws) hc hd
  obtain ⟨u, y, a, b, g⟩ := h.2 n d hn
  exact ⟨u, y, by rw [e t ht]; exact a, b, g⟩
theorem CP.ahead {H : Hp} {cs : List (List V)} {ws : List PrtT} {j : Nat} {c : List V} {t : PrtT} (h : CP H cs ws) (hc : cs[j]? = some c) (ht : ws[j]? = some t) : CP H (c :: cs.eraseIdx j) (t :: ws.eraseIdx j) := by
  have l1 := (List.getElem?_eq_some_iff.mp hc).1
  have l2 := (List.getElem?_eq_some_iff.mp ht).1
  refine ⟨by rw [List.length_cons, List.length_cons, List.length_eraseIdx, List.length_eraseIdx, if_pos l1, if_pos l2, h.1], fun i d hd => ?_⟩
  obtain ⟨n, hn, e⟩ := ahead_two (m := ws) hc hd
  obtain ⟨u, y, a, b, g⟩ := h.2 n d hn
  exact ⟨u, y, by rw [e t ht]; exact a, b, g⟩
theorem Cp.ahead {p D : Addr} {H0 Hc : Hp} {rs : List Addr} {cs : List (List V)} {j : Nat} {r : Addr} {c : List V} (h : Cp p H0 Hc D rs cs) (S : StOk H0 p) (hr : rs[j]? = some r) (hc : cs[j]? = some c) : Cp p H0 (upd Hc D (.lst ((r :: rs.eraseIdx j).map V.ref))) D (r :: rs.eraseIdx j) (c :: cs.eraseIdx j) := by
  have l1 := (List.getElem?_eq_some_iff.mp hr).1
  have l2 := (List.getElem?_eq_some_iff.mp hc).1
  have pm := erase_perm hr
  refine ⟨upd_same, by rw [List.length_cons, List.length_cons, List.length_eraseIdx, List.length_eraseIdx, if_pos l1, if_pos l2, h.len], pm.symm.nodup_iff.mp h.nd, fun u hu => h.fr u (pm.mem_iff.mp hu), fun i u d hu hd => ?_, h.D0, Went.wr S h.w h.D0 (S.ne h.D0)⟩
  obtain ⟨n, hn, e⟩ := ahead_two (m := cs) hr hu
  rw [e c hc] at hd
  rw [upd_ne (h.fr u (List.mem_of_getElem? hn)).2]
  exact h.at_ n u d hn hd
theorem choice_ahead {ws : List WayT} {j : Nat} {t : WayT} (h : TrmD 7 (.choice ws)) (ht : ws[j]? = some t) : TrmD 8 (.choice (t :: ws.eraseIdx j)) := by
  obtain ⟨hl, hv, ⟨x, hx, hxd⟩, hnd, hap⟩ := h
  have pm := erase_perm ht
  have l2 := (List.getElem?_eq_some_iff.mp ht).1
  exact ⟨by rw [pm.length_eq]; exact hl, fun u hu => (hv u (pm.mem_iff.mp hu)).up (by decide), ⟨x, pm.mem_iff.mpr hx, hxd⟩, (pm.map _).symm.nodup_iff.mp hnd, apart_perm (pm.map _).symm hap⟩
theorem row_ahead {ws : List PrtT} {j : Nat} {t : PrtT} (h : TrmD 7 (.row ws)) (ht : ws[j]? = some t) (hj : j + 1 < ws.length) : TrmD 8 (.row (t :: ws.eraseIdx j)) := by
  obtain ⟨hl, hv, ⟨x, hx, hxw⟩, hnd⟩ := h
  have pm := erase_perm ht
  refine ⟨by rw [pm.length_eq]; exact hl, fun u hu => (hv u (pm.mem_iff.mp hu)).up (by decide), ⟨x, ?_, hxw⟩, (pm.map _).symm.nodup_iff.mp hnd⟩
  rw [List.getLast?_eq_getElem?, pm.length_eq, ahead_at, if_neg (by omega), if_neg (by omega), ← List.getLast?_eq_getElem?]
  exact hx
end Me
set_option maxHeartbeats 8000000
namespace Me
open PySem L2


end Me
local macro_rules | `(tactic| walk_at "go3") => `(tactic| repeat (first | walk_at "go1" | (with_reducible refine And.intro (a := L2.V.non = L2.V.non) rfl ?_) | ((with_reducible refine' Me.i_yes ?_ ?_); (first | rfl | exact decide_eq_true rfl)) | ((with_reducible refine' Me.i_no ?_ ?_); (first | rfl | exact decide_eq_false (fun z => absurd (L2.V.str.inj z) (by decide)) | (simp; done))) | with_reducible refine Me.i_make ?_))
namespace Me
open PySem L2
section
variable {P : Program} {w : World} {K : PySem.W.Frag} {mg : Str → Option Value} {base : Heap} {a : Ad}
def spChC : Sp := fun vs H Q _ => ∃ (p : Addr) (x : V) (ws : List WayT), vs = [.ref p, x] ∧ StOk H p ∧ TrmT H x (.choice ws) ∧ TrmD 7 (.choice ws) ∧ (Trm.choice ws).fst ∧ ∀ v H' us, TrmT H' v (.choice us) → TrmD 8 (.choice us) → Went p H H' → Q v H'
theorem ok_chC (T : Txt K mg a) : FnOk P w K mg base CX0 7 a._law_changed.f a._law_changed.fd ["_law_state", "_law_term"] spChC := by
  have G__law_pull : FnOk P w K mg base CX0 1 a._law_pull.f a._law_pull.fd ["_law_state", "_law_many"] spPull := ok_pull T
  have G__law_name : FnOk P w K mg base CX0 2 a._law_name.f a._law_name.fd ["_law_state", "_law_taken"] spName := ok_name T
  have G__law_changed_simple : FnOk P w K mg base CX0 4 a._law_changed_simple.f a._law_changed_simple.fd ["_law_state", "_law_term"] spChS := ok_chS T
  have G__law_changed_inner : FnOk P w K mg base CX0 6 a._law_changed_inner.f a._law_changed_inner.fd ["_law_state", "_law_term"] spChN := ok_chN T
  have sc : FnScope ["_law_state", "_law_term", "_law_rows", "_law_row", "_law_at", "_law_turn", "_law_last", "_law_taken"] ["_law_state", "_law_term"] (defScope (top 47)) := ⟨rfl, rfl, rfl, by decide +kernel, rfl, by decide +kernel, by decide +kernel⟩
  refine T._law_changed.ok sc (fun vs H Q E h => ?_) (fun cdv A outer s H vs Q E hr h => ?_)
  · obtain ⟨p, x, ws, rfl, _⟩ := h
    rfl
  · obtain ⟨p, x, ws, rfl, S, ⟨q, q2, xs, rfl, hq, hq2, hal⟩, hd, hf, k⟩ := h
    refine ⟨_, (pss_cons (ps_if (pt_cmpR op_notIn_seq (pe_ix ix_list (pv 1) pe_int (fun _ _ => rfl)) (pe_lst (pa_cons pe_str (pa_cons pe_str pa_nil))) (by rfl))
      (pss_one (ps_ret (pe_call G__law_changed_simple (hr.mono (by first | decide | omega)) rfl T._law_changed_simple.mg T._law_changed_simple.kp T._law_changed_simple.b .nil pass0 (pa_cons (pv 0) (pa_cons (pv 1) pa_nil)))))
      pss_nil)
      (pss_cons (ps_setLc (te := tCB (fun xs H Q => ∃ p ys, xs = [V.ref p] ∧ (SqL K H p ys ∨ SqT K H p ys) ∧ ∀ l, H l = none → Q (V.ref l) (upd H l (.lst ys))) (tCons (tVar 3) tNil)) (i := 2) (own := [("_law_row", 3)]) (g := gName 3) (by rfl) sc.nd rfl rfl (sw_true rfl rfl rfl (by decide +kernel)) (pi_list (pe_ix ix_list (pv 1) pe_int (fun _ _ => rfl))) (blkOk_by (own := [("_law_row", 3)]) (N := ["_law_state", "_law_term", "_law_rows", "_law_row", "_law_at", "_law_turn", "_law_last", "_law_taken"]) (sc := defScope (top 47)) (by decide +kernel)) (fun _ _ _ _ _ => pg_name (i := 3) sc.nd rfl (Or.inl rfl)) (fun _ _ _ _ _ => pts_nil) (fun _ _ _ _ _ => (by exact (pe_callTy call_list_of (by rfl) T.list (by decide +kernel) (pa_cons (pv 3) pa_nil)))))
      (pss_cons (ps_set (i := 4) sc.nd rfl (by first | exact Or.inl rfl | exact Or.inr rfl) (pe_call G__law_pull (hr.mono (by first | decide | omega)) rfl T._law_pull.mg T._law_pull.kp T._law_pull.b .nil pass0 (pa_cons (pv 0) (pa_cons (pe_callB call_len_seq (by rfl) T.len PySem.boot_len (pa_cons (pv 2) pa_nil)) pa_nil))))
      (pss_cons (ps_set (i := 5) sc.nd rfl (by first | exact Or.inl rfl | exact Or.inr rfl) (pe_call G__law_pull (hr.mono (by first | decide | omega)) rfl T._law_pull.mg T._law_pull.kp T._law_pull.b .nil pass0 (pa_cons (pv 0) (pa_cons pe_int pa_nil))))
      (pss_cons (ps_set (i := 6) sc.nd rfl (by first | exact Or.inl rfl | exact Or.inr rfl) (pe_op op_sub (pe_callB call_len_seq (by rfl) T.len PySem.boot_len (pa_cons (pe_ix ix_list (pv 2) (pv 4) (fun _ _ => rfl)) pa_nil)) pe_int))
      (pss_cons (ps_setLc (te := tOp (rIxL K) (tVar 3) (tC (.int 1))) (i := 7) (own := [("_law_row", 3)]) (g := gName 3) (by rfl) sc.nd rfl rfl (sw_true rfl rfl rfl (by decide +kernel)) (pi_list (pv 2)) (blkOk_by (own := [("_law_row", 3)]) (N := ["_law_state", "_law_term", "_law_rows", "_law_row", "_law_at", "_law_turn", "_law_last", "_law_taken"]) (sc := defScope (top 47)) (by decide +kernel)) (fun _ _ _ _ _ => pg_name (i := 3) sc.nd rfl (Or.inl rfl)) (fun _ _ _ _ _ => pts_nil) (fun _ _ _ _ _ => (by exact (pe_ix ix_list (pv 3) pe_int (fun _ _ => rfl)))))
      (pss_cons (ps_if (pt_cmpR op_eq (pv 5) pe_int (nomark _))
      (pss_one (ps_asg (pe_call G__law_name (hr.mono (by first | decide | omega)) rfl T._law_name.mg T._law_name.kp T._law_name.b .nil pass0 (pa_cons (pv 0) (pa_cons (pv 7) pa_nil))) (pg_sub (pe_ix ix_list (pv 2) (pv 4) (fun _ _ => rfl)) pe_int set_list)))
      (pss_one (ps_if (pt_cmpR op_eq (pv 5) pe_int (nomark _))
      (pss_one (ps_asg (pe_call G__law_changed_inner (hr.mono (by first | decide | omega)) rfl T._law_changed_inner.mg T._law_changed_inner.kp T._law_changed_inner.b .nil pass0 (pa_cons (pv 0) (pa_cons (pe_ix ix_list (pe_ix ix_list (pv 2) (pv 4) (fun _ _ => rfl)) (pv 6) (fun _ _ => rfl)) pa_nil))) (pg_sub (pe_ix ix_list (pv 2) (pv 4) (fun _ _ => rfl)) (pv 6) set_list)))
      (pss_one (ps_if (PW.pt (pw_and (pt_cmpR op_eq (pv 5) pe_int (nomark _)) (pw_and (pt_cmpR op_ne (pe_ix ix_list (pe_ix ix_list (pv 2) (pv 4) (fun _ _ => rfl)) pe_int (fun _ _ => rfl)) pe_str (nomark _)) (pw_and1 (pt_cmpR op_lt (pe_callB call_len_str (by rfl) T.len PySem.boot_len (pa_cons (pe_ix ix_list (pe_ix ix_list (pv 2) (pv 4) (fun _ _ => rfl)) pe_int (fun _ _ => rfl)) pa_nil)) pe_int (nomark _))))))
      (pss_one (ps_asg (pe_op op_add_str (pe_ix ix_list (pe_ix ix_list (pv 2) (pv 4) (fun _ _ => rfl)) pe_int (fun _ _ => rfl)) (pe_ix ix_str pe_str (pe_call G__law_pull (hr.mono (by first | decide | omega)) rfl T._law_pull.mg T._law_pull.kp T._law_pull.b .nil pass0 (pa_cons (pv 0) (pa_cons pe_int pa_nil))) (fun _ _ => rfl))) (pg_sub (pe_ix ix_list (pv 2) (pv 4) (fun _ _ => rfl)) pe_int set_list)))
      (pss_one (ps_if (PW.pt (pw_and (pt_cmpR op_eq (pv 5) pe_int (nomark _)) (pw_and (pt_cmpR op_eq (pe_ix ix_list (pv 1) pe_int (fun _ _ => rfl)) pe_str (nomark _)) (pw_and (pt_cmpR op_notN (pe_ix ix_list (pe_ix ix_list (pv 2) (pv 4) (fun _ _ => rfl)) pe_int (fun _ _ => rfl)) pe_non (nomark _)) (pw_and1 (pt_cmpR op_gt (pv 4) pe_int (nomark _)))))))
      (pss_one (ps_asg (pe_not (pe_ix ix_list (pe_ix ix_list (pv 2) (pv 4) (fun _ _ => rfl)) pe_int (fun _ _ => rfl))) (pg_sub (pe_ix ix_list (pv 2) (pv 4) (fun _ _ => rfl)) pe_int set_list)))
      (pss_one (ps_if (PW.pt (pw_and (pt_cmpR op_eq (pv 5) pe_int (nomark _)) (pw_and (pt_cmpR op_eq (pe_ix ix_list (pv 1) pe_int (fun _ _ => rfl)) pe_str (nomark _)) (pw_and (pt_cmpR op_lt (pv 4) (pe_op op_sub (pe_callB call_len_seq (by rfl) T.len PySem.boot_len (pa_cons (pv 2) pa_nil)) pe_int) (nomark _)) (pw_and1 (pt_cmpR op_notN (pe_ix ix_list (pe_ix ix_list (pv 2) (pv 4) (fun _ _ => rfl)) pe_int (fun _ _ => rfl)) pe_non (nomark _)))))))
      (pss_one (ps_asg (pe_ix ix_list (pe_lst (pa_cons pe_str (pa_cons pe_str pa_nil))) (pe_callTy call_int1 (by rfl) T.int (by decide +kernel) (pa_cons (pe_cmpR op_eq (pe_ix ix_list (pe_ix ix_list (pv 2) (pv 4) (fun _ _ => rfl)) pe_int (fun _ _ => rfl)) pe_str (nomark _)) pa_nil)) (fun _ _ => rfl)) (pg_sub (pe_ix ix_list (pv 2) (pv 4) (fun _ _ => rfl)) pe_int set_list)))
      (pss_one (ps_if (pt_cmpR op_lt (pv 4) (pe_op op_sub (pe_callB call_len_seq (by rfl) T.len PySem.boot_len (pa_cons (pv 2) pa_nil)) pe_int) (nomark _))
      (pss_one (ps_expr (pe_bm PySem.F.plainAttrs_list PySem.F.slot_list_insert PySem.F.type_list_insert mt_insert (pv 2) (pa_cons pe_int (pa_cons (pe_bm PySem.F.plainAttrs_list PySem.F.slot_list_pop PySem.F.type_list_pop mt_popAt (pv 2) (pa_cons (pv 4) pa_nil)) pa_nil)))))
      pss_nil)))))))))))
      (pss_one (ps_ret (pe_lst (pa_cons (pe_ix ix_list (pv 1) pe_int (fun _ _ => rfl)) (pa_cons (pv 2) pa_nil)))))))))))), ?_⟩
    walk_at "go3"
    rename_i N nN
    refine i_inS (neg := true) (ts := ["choice", "row"]) upd_same ⟨_, rfl, i_no (by decide) ?_⟩
    have s1 := same_new (o := .lst [.str "choice", .str "row"]) same_rfl nN
    have W1 : Went p H (upd H N (.lst [.str "choice", .str "row"])) := (Went.rfl' S).new nN
    generalize upd H N (.lst [.str "choice", .str "row"]) = H1 at s1 W1 ⊢
    have hq1 := s1 _ _ hq
    have hq21 := s1 _ _ hq2
    have hal1 : AllO WayR H1 xs ws := hal.ext fun x t r => r.sk (Same.sk s1)
    obtain ⟨cs, cw1, hxc⟩ := contW hal1
    have hlw : ws.length ≤ 12 := hd.1.2
    have hl1 : 1 ≤ ws.length := hd.1.1
    have hlx : xs.length = ws.length := hal1.1
    walk_at "go3"
    refine copy_le cs (fun R q => by walk_at "go"; exact q) hq21 (Nat.lt_of_le_of_lt (show xs.length ≤ 12 by omega) (by decide)) (fun _ => rfl) (hlx.trans cw1.1.symm) hxc (fun r c H3 R h3 q => ?_) (fun D rs H3 nD s3 hD hrl hnd hfr hat => ?_)
    · walk_at "go3"
      exact q
    have cp3 : Cp p H1 H3 D rs cs := ⟨hD, hrl, hnd, hfr, hat, nD, went_same W1.1 s3⟩
    have Dp := W1.1.ne nD
    have hrw : rs.length = ws.length := hrl.trans cw1.1
    walk_at "go3"
    refine ⟨p, _, rfl, cp3.w.1, by rw [List.length_map]; omega, by rw [List.length_map]; omega, fun ia H4 a0 a1 w4 => ?_⟩
    have cp4 := cp3.went W1.1 w4
    walk_at "go3"
    refine ⟨p, _, rfl, w4.1, by decide, by decide, fun r5 H5 b0 b1 w5 => ?_⟩
    have cp5 := cp4.went W1.1 w5
    obtain ⟨jn, rfl⟩ := Int.eq_ofNat_of_zero_le a0
    have hjr : jn < rs.length := by rw [List.length_map] at a1; omega
    obtain ⟨r, hr⟩ : ∃ r, rs[jn]? = some r := ⟨rs[jn], List.getElem?_eq_getElem hjr⟩
    have hati : atI (rs.map V.ref) ((jn : Nat) : Int) = some (.ref r) := atI_nat (by rw [List.getElem?_map, hr]; rfl)
    obtain ⟨c, hcj⟩ : ∃ c, cs[jn]? = some c := ⟨cs[jn]'(by omega), List.getElem?_eq_getElem (by omega)⟩
    obtain ⟨tj, y, htj, rfl, hy1⟩ := cw1.2 jn c hcj
    have hr5 := cp5.at_ jn r _ hr hcj
    have wdj := hd.2.1 tj (List.mem_of_getElem? htj)
    walk_at "go3"
    refine i_ixl cp5.hD hati ?_
    walk_at "go3"
    refine many_le (xs := rs.map V.ref) (fun i v _ => ∃ u, ws[i]? = some u ∧ v = .str u.n) (fun _ _ _ _ _ h => h) (fun R q => by walk_at "go"; exact q) (SqL.of cp5.hD) (by rw [List.length_map]; exact Nat.lt_of_le_of_lt (show rs.length ≤ 12 by omega) (by decide)) (fun _ => rfl) (fun i x H6 R hx s6 q => ?_) (fun t ys H6 nt s6 ht hly hys => ?_)
    · rw [List.getElem?_map] at hx
      cases hu : rs[i]? with
      | none => rw [hu] at hx; cases hx
      | some u =>
        rw [hu] at hx
        cases hx
        have hic : i < cs.length := by rw [← hrl]; exact (List.getElem?_eq_some_iff.mp hu).1
        obtain ⟨tu, yu, htu, e, _⟩ := cw1.2 i _ (List.getElem?_eq_getElem hic)
        have hu6 : H6 u = some (.lst [.str tu.w, .str tu.n, .bl tu.d, yu]) := s6 _ _ (by rw [← e]; exact cp5.at_ i u _ hu (List.getElem?_eq_getElem hic))
        walk_at "go3"
        exact q _ _ same_rfl ⟨tu, htu, rfl⟩
    have hns : ys = (ws.map (·.n)).map V.str := by
      refine List.ext_getElem? fun i => ?_
      rw [List.map_map, List.getElem?_map]
      cases hy : ys[i]? with
      | none =>
        have := List.getElem?_eq_none_iff.mp hy
        rw [hly, List.length_map, hrw] at this
        rw [List.getElem?_eq_none this]; rfl
      | some v =>
        obtain ⟨u, hu, rfl⟩ := hys i v hy
        rw [hu]; rfl
    subst hns
    have W56 : Went p H5 H6 := went_same w5.1 s6
    have cp6 := cp5.went W1.1 W56
    have ntD : t ≠ D := fun e => by rw [e, cp5.hD] at nt; cases nt
    have ntr : ∀ u ∈ rs, t ≠ u := fun u hu e => by
      obtain ⟨i, hi⟩ := List.getElem?_of_mem hu
      have hic : i < cs.length := by rw [← hrl]; exact (List.getElem?_eq_some_iff.mp hi).1
      rw [e, cp5.at_ i u _ hi (List.getElem?_eq_getElem hic)] at nt
      cases nt
    have nt1 : H1 t = none := went_dom cp5.w _ nt
    have tp := W1.1.ne nt1
    have hr6 := s6 _ _ hr5
    have hsx : seqIndex? ((jn : Nat) : Int) rs.length = some jn := (ixN_seq (by unfold ixN; rw [if_pos (by omega), if_pos (by omega)]; simp)).1
    walk_at "go3"
    have nx : ∀ {i j : Int}, i ≠ j → decide (V.int i = V.int j) = false := fun h => decide_eq_false fun z => h (V.int.inj z)
    have hq6 := Went.sk W1.1 cp6.w _ _ _ hq1
    have wne : tj.w ≠ ("" : Str) := fun z => by have := wdj.1.l0; rw [z] at this; exact absurd this (by decide)
    have exd : ∀ u : WayT, u.d = tj.d → ∃ x ∈ ws.set jn u, x.d = false := fun u hu => by
      obtain ⟨t0, ht0, hd0⟩ := hf
      by_cases q : jn = 0
      · subst q
        rw [htj] at ht0
        cases ht0
        exact ⟨u, List.mem_of_getElem? (i := 0) (List.getElem?_set_self (by omega)), hu.trans hd0⟩
      · exact ⟨t0, List.mem_of_getElem? (i := 0) (by rw [List.getElem?_set_ne q]; exact ht0), hd0⟩
    have h5 : r5 = 0 ∨ r5 = 1 ∨ r5 = 2 ∨ r5 = 3 ∨ r5 = 4 := by omega
    rcases h5 with rfl | rfl | rfl | rfl | rfl
    · refine i_yes (decide_eq_true rfl) ?_
      walk_at "go3"
      refine ⟨p, t, ws.map (·.n), rfl, cp6.w.1, ht, tp, by rw [List.length_map]; omega, st_fresh W1.1 cp6.w nt1, fun z H8 hz hzn w8 ht8 st8 => ?_⟩
      have cp8 := cp6.went2 W1.1 nt1 ntD ntr w8 st8
      have hr8 := cp8.at_ jn r _ hr hcj
      walk_at "go3"
      refine i_ixl cp8.hD hati ?_
      walk_at "go3"
      rw [show ([V.str tj.w, V.str tj.n, V.bl tj.d, y].set (Int.toNat 1) (V.str z)) = [.str tj.w, .str z, .bl tj.d, y] from rfl]
      have cpA := cp8.set W1.1 hr (c := [.str tj.w, .str z, .bl tj.d, y])
      have cwA : CW (upd H8 r (.lst [.str tj.w, .str z, .bl tj.d, y])) (cs.set jn [.str tj.w, .str z, .bl tj.d, y]) (ws.set jn ⟨tj.w, z, tj.d, tj.k⟩) := CW.set (t := ⟨tj.w, z, tj.d, tj.k⟩) (cw1.sk (Went.sk W1.1 cpA.w)) (hy1.sk (Went.sk W1.1 cpA.w))
      have hdU : TrmD 8 (.choice (ws.set jn ⟨tj.w, z, tj.d, tj.k⟩)) := choice_set hd htj ⟨wdj.1, hz, wdj.2.2.1.up (by decide), wdj.2.2.2⟩ (.inr hzn) (by rw [map_set_same (f := fun x : WayT => x.w) (u := ⟨tj.w, z, tj.d, tj.k⟩) htj rfl]; exact hd.2.2.2.2) (exd _ rfl)
      have hqf := Went.sk W1.1 (cpA).w _ _ _ hq1
      walk_at "go3"
      rename_i B nB
      exact k _ _ _ ⟨B, D, _, rfl, upd_same, by rw [upd_ne (ne_of_none (cpA).hD nB)]; exact (cpA).hD, ((cpA).ways cwA).ext fun x t r => r.sk (Same.sk (same_new same_rfl nB))⟩ hdU (W1.trans ((cpA).w.new nB))
    · walk_at "go3"
      refine i_ixl cp6.hD hati ?_
      walk_at "go3"
      refine ⟨p, y, tj.k, rfl, cp6.w.1, hy1.sk (Went.sk W1.1 cp6.w), wdj.2.2.1, fun v H8 g hg hgd w8 => ?_⟩
      have cp8 := cp6.went W1.1 w8
      have hr8 := cp8.at_ jn r _ hr hcj
      walk_at "go3"
      refine i_ixl cp8.hD hati ?_
      walk_at "go3"
      rw [show ([V.str tj.w, V.str tj.n, V.bl tj.d, y].set (Int.toNat (↑[V.str tj.w, V.str tj.n, V.bl tj.d, y].length - 1)) v) = [.str tj.w, .str tj.n, .bl tj.d, v] from rfl]
      have cpA := cp8.set W1.1 hr (c := [.str tj.w, .str tj.n, .bl tj.d, v])
      have cwA : CW (upd H8 r (.lst [.str tj.w, .str tj.n, .bl tj.d, v])) (cs.set jn [.str tj.w, .str tj.n, .bl tj.d, v]) (ws.set jn ⟨tj.w, tj.n, tj.d, .smp g⟩) := CW.set (t := ⟨tj.w, tj.n, tj.d, .smp g⟩) (cw1.sk (Went.sk W1.1 cpA.w)) (InnT.row (k := .smp g) hg hr8)
      have hdU : TrmD 8 (.choice (ws.set jn ⟨tj.w, tj.n, tj.d, .smp g⟩)) := choice_set hd htj ⟨wdj.1, wdj.2.1, hgd, fun _ z => by cases z⟩ (.inl rfl) (by rw [map_set_same (f := fun x : WayT => x.w) (u := ⟨tj.w, tj.n, tj.d, .smp g⟩) htj rfl]; exact hd.2.2.2.2) (exd _ rfl)
      have hqf := Went.sk W1.1 (cpA).w _ _ _ hq1
      walk_at "go3"
      rename_i B nB
      exact k _ _ _ ⟨B, D, _, rfl, upd_same, by rw [upd_ne (ne_of_none (cpA).hD nB)]; exact (cpA).hD, ((cpA).ways cwA).ext fun x t r => r.sk (Same.sk (same_new same_rfl nB))⟩ hdU (W1.trans ((cpA).w.new nB))
    · walk_at "go3"
      refine i_ixl cp6.hD hati ?_
      walk_at "go3"
      refine i_yes (by rw [decide_eq_false (fun z => wne (V.str.inj z))]; rfl) ?_
      walk_at "go3"
      refine i_ixl cp6.hD hati ?_
      walk_at "go3"
      refine ⟨tj.w, rfl, Nat.le_trans wdj.1.l8 (by decide), ?_⟩
      walk_at "go3"
      refine i_itd (fun h8 => ?_) (fun h8 => ?_)
      · walk_at "go3"
        refine i_ixl cp6.hD hati ?_
        walk_at "go3"
        refine ⟨p, _, rfl, cp6.w.1, by decide, by decide, fun r4 H8 q0 q1 w8 => ?_⟩
        have cp8 := cp6.went W1.1 w8
        have hr8 := cp8.at_ jn r _ hr hcj
        have hl : (("01" : Str).cps.toList).length = 2 := by decide
        obtain ⟨ch, hch, hmem⟩ := at_mem' (xs := ("01" : Str).cps.toList) q0 (by rw [hl]; omega)
        have hcb : bitB ch = true := by
          have : ∀ c ∈ ("01" : Str).cps.toList, bitB c = true := by decide
          exact this ch hmem
        refine ⟨_, r4, ch, rfl, rfl, by decide, hch, ?_⟩
        refine ⟨_, _, rfl, rfl, Nat.le_trans (show tj.w.length + 1 ≤ 10 by omega) (by decide), ?_⟩
        walk_at "go3"
        refine i_ixl cp8.hD hati ?_
        walk_at "go3"
        rw [show ([V.str tj.w, V.str tj.n, V.bl tj.d, y].set (Int.toNat 0) (V.str (tj.w ++ ⟨#[ch]⟩))) = [.str (tj.w ++ ⟨#[ch]⟩), .str tj.n, .bl tj.d, y] from rfl]
        have cpA := cp8.set W1.1 hr (c := [.str (tj.w ++ ⟨#[ch]⟩), .str tj.n, .bl tj.d, y])
        have cwA : CW (upd H8 r (.lst [.str (tj.w ++ ⟨#[ch]⟩), .str tj.n, .bl tj.d, y])) (cs.set jn [.str (tj.w ++ ⟨#[ch]⟩), .str tj.n, .bl tj.d, y]) (ws.set jn ⟨tj.w ++ ⟨#[ch]⟩, tj.n, tj.d, tj.k⟩) := CW.set (t := ⟨tj.w ++ ⟨#[ch]⟩, tj.n, tj.d, tj.k⟩) (cw1.sk (Went.sk W1.1 cpA.w)) (hy1.sk (Went.sk W1.1 cpA.w))
        have wl : (tj.w ++ (⟨#[ch]⟩ : Str)).length = tj.w.length + 1 := by rw [len_add]; rfl
        have hdU : TrmD 8 (.choice (ws.set jn ⟨tj.w ++ ⟨#[ch]⟩, tj.n, tj.d, tj.k⟩)) := choice_set hd htj ⟨⟨by rw [wl]; omega, by rw [wl]; omega, bits_add wdj.1.b (by simp [bitsS, hcb])⟩, wdj.2.1, wdj.2.2.1.up (by decide), wdj.2.2.2⟩ (.inl rfl) (by rw [List.map_set]; exact apart_ext _ hd.2.2.2.2 (by rw [List.getElem?_map, htj]; rfl)) (exd _ rfl)
        have hqf := Went.sk W1.1 (cpA).w _ _ _ hq1
        walk_at "go3"
        rename_i B nB
        exact k _ _ _ ⟨B, D, _, rfl, upd_same, by rw [upd_ne (ne_of_none (cpA).hD nB)]; exact (cpA).hD, ((cpA).ways cwA).ext fun x t r => r.sk (Same.sk (same_new same_rfl nB))⟩ hdU (W1.trans ((cpA).w.new nB))
      · walk_at "go3"
        walk_at "go3"
        refine i_itd (fun hlt => ?_) (fun hlt => ?_)
        · walk_at "go3"
          refine ⟨.ref D, rfl, .inl ⟨rfl, _, SqL.of cp6.hD⟩, ?_⟩
          walk_at "go3"
          refine ⟨.ref D, rfl, .inl ⟨rfl, _, SqL.of cp6.hD⟩, ?_⟩
          walk_at "go3"
          refine ⟨D, _, (jn : Int), jn, .ref r, rfl, rfl, cp6.hD, by omega, by omega, ?_, by rw [List.getElem?_map, hr]; rfl, ?_⟩
          · rw [List.length_map]
            exact hsx
          walk_at "go3"
          refine ⟨D, _, 0, .ref r, rfl, rfl, upd_same, by rw [erase_mapR, List.length_map]; exact Nat.lt_of_le_of_lt (Nat.le_trans (List.length_eraseIdx_le _ _) (by omega : rs.length ≤ 12)) (by decide), by decide, by decide, ?_⟩
          rw [upd_upd, erase_mapR, show (((rs.eraseIdx jn).map V.ref).take (Int.toNat 0) ++ [V.ref r] ++ ((rs.eraseIdx jn).map V.ref).drop (Int.toNat 0)) = (r :: rs.eraseIdx jn).map V.ref from rfl]
          have cpA := cp6.ahead W1.1 hr hcj
          have cwA : CW (upd H6 D (.lst ((r :: rs.eraseIdx jn).map V.ref))) ([.str tj.w, .str tj.n, .bl tj.d, y] :: cs.eraseIdx jn) (tj :: ws.eraseIdx jn) := (cw1.sk (Went.sk W1.1 cpA.w)).ahead hcj htj
          have hqf := Went.sk W1.1 (cpA).w _ _ _ hq1
          walk_at "go3"
          rename_i B nB
          exact k _ _ _ ⟨B, D, _, rfl, upd_same, by rw [upd_ne (ne_of_none (cpA).hD nB)]; exact (cpA).hD, ((cpA).ways cwA).ext fun x t r => r.sk (Same.sk (same_new same_rfl nB))⟩ (choice_ahead hd htj) (W1.trans ((cpA).w.new nB))
        · have cw6' := cw1.sk (Went.sk W1.1 cp6.w)
          have hdU : TrmD 8 (.choice ws) := ⟨hd.1, fun u hu => (hd.2.1 u hu).up (by decide), hd.2.2⟩
          have hqf := Went.sk W1.1 (cp6).w _ _ _ hq1
          walk_at "go3"
          rename_i B nB
          exact k _ _ _ ⟨B, D, _, rfl, upd_same, by rw [upd_ne (ne_of_none (cp6).hD nB)]; exact (cp6).hD, ((cp6).ways cw6').ext fun x t r => r.sk (Same.sk (same_new same_rfl nB))⟩ hdU (W1.trans ((cp6).w.new nB))
    · walk_at "go3"
      refine i_ixl cp6.hD hati ?_
      walk_at "go3"
      by_cases yn : y = .non
      · refine i_no (by rw [decide_eq_true yn]; rfl) ?_
        walk_at "go3"
        walk_at "go3"
        refine i_itd (fun hlt => ?_) (fun hlt => ?_)
        · walk_at "go3"
          refine ⟨.ref D, rfl, .inl ⟨rfl, _, SqL.of cp6.hD⟩, ?_⟩
          walk_at "go3"
          refine ⟨.ref D, rfl, .inl ⟨rfl, _, SqL.of cp6.hD⟩, ?_⟩
          walk_at "go3"
          refine ⟨D, _, (jn : Int), jn, .ref r, rfl, rfl, cp6.hD, by omega, by omega, ?_, by rw [List.getElem?_map, hr]; rfl, ?_⟩
          · rw [List.length_map]
            exact hsx
          walk_at "go3"
          refine ⟨D, _, 0, .ref r, rfl, rfl, upd_same, by rw [erase_mapR, List.length_map]; exact Nat.lt_of_le_of_lt (Nat.le_trans (List.length_eraseIdx_le _ _) (by omega : rs.length ≤ 12)) (by decide), by decide, by decide, ?_⟩
          rw [upd_upd, erase_mapR, show (((rs.eraseIdx jn).map V.ref).take (Int.toNat 0) ++ [V.ref r] ++ ((rs.eraseIdx jn).map V.ref).drop (Int.toNat 0)) = (r :: rs.eraseIdx jn).map V.ref from rfl]
          have cpA := cp6.ahead W1.1 hr hcj
          have cwA : CW (upd H6 D (.lst ((r :: rs.eraseIdx jn).map V.ref))) ([.str tj.w, .str tj.n, .bl tj.d, y] :: cs.eraseIdx jn) (tj :: ws.eraseIdx jn) := (cw1.sk (Went.sk W1.1 cpA.w)).ahead hcj htj
          have hqf := Went.sk W1.1 (cpA).w _ _ _ hq1
          walk_at "go3"
          rename_i B nB
          exact k _ _ _ ⟨B, D, _, rfl, upd_same, by rw [upd_ne (ne_of_none (cpA).hD nB)]; exact (cpA).hD, ((cpA).ways cwA).ext fun x t r => r.sk (Same.sk (same_new same_rfl nB))⟩ (choice_ahead hd htj) (W1.trans ((cpA).w.new nB))
        · have cw6' := cw1.sk (Went.sk W1.1 cp6.w)
          have hdU : TrmD 8 (.choice ws) := ⟨hd.1, fun u hu => (hd.2.1 u hu).up (by decide), hd.2.2⟩
          have hqf := Went.sk W1.1 (cp6).w _ _ _ hq1
          walk_at "go3"
          rename_i B nB
          exact k _ _ _ ⟨B, D, _, rfl, upd_same, by rw [upd_ne (ne_of_none (cp6).hD nB)]; exact (cp6).hD, ((cp6).ways cw6').ext fun x t r => r.sk (Same.sk (same_new same_rfl nB))⟩ hdU (W1.trans ((cp6).w.new nB))
      · refine i_yes (by rw [decide_eq_false yn]; rfl) ?_
        walk_at "go3"
        refine i_itd (fun hj0 => ?_) (fun hj0 => ?_)
        · walk_at "go3"
          refine i_ixl cp6.hD hati ?_
          walk_at "go3"
          refine i_ixl cp6.hD hati ?_
          walk_at "go3"
          rw [show ([V.str tj.w, V.str tj.n, V.bl tj.d, y].set (Int.toNat 2) (V.bl (!tj.d))) = [.str tj.w, .str tj.n, .bl (!tj.d), y] from rfl]
          have cpA := cp6.set W1.1 hr (c := [.str tj.w, .str tj.n, .bl (!tj.d), y])
          have cwA : CW (upd H6 r (.lst [.str tj.w, .str tj.n, .bl (!tj.d), y])) (cs.set jn [.str tj.w, .str tj.n, .bl (!tj.d), y]) (ws.set jn ⟨tj.w, tj.n, !tj.d, tj.k⟩) := CW.set (t := ⟨tj.w, tj.n, !tj.d, tj.k⟩) (cw1.sk (Went.sk W1.1 cpA.w)) (hy1.sk (Went.sk W1.1 cpA.w))
          have hdU : TrmD 8 (.choice (ws.set jn ⟨tj.w, tj.n, !tj.d, tj.k⟩)) := choice_set hd htj ⟨wdj.1, wdj.2.1, wdj.2.2.1.up (by decide), fun _ z => yn (by rw [z] at hy1; exact hy1)⟩ (.inl rfl) (by rw [map_set_same (f := fun x : WayT => x.w) (u := ⟨tj.w, tj.n, !tj.d, tj.k⟩) htj rfl]; exact hd.2.2.2.2) (by
            obtain ⟨t0, ht0, hd0⟩ := hf
            exact ⟨t0, List.mem_of_getElem? (i := 0) (by rw [List.getElem?_set_ne (by omega)]; exact ht0), hd0⟩)
          have hqf := Went.sk W1.1 (cpA).w _ _ _ hq1
          walk_at "go3"
          rename_i B nB
          exact k _ _ _ ⟨B, D, _, rfl, upd_same, by rw [upd_ne (ne_of_none (cpA).hD nB)]; exact (cpA).hD, ((cpA).ways cwA).ext fun x t r => r.sk (Same.sk (same_new same_rfl nB))⟩ hdU (W1.trans ((cpA).w.new nB))
        · walk_at "go3"
          walk_at "go3"
          refine i_itd (fun hlt => ?_) (fun hlt => ?_)
          · walk_at "go3"
            refine ⟨.ref D, rfl, .inl ⟨rfl, _, SqL.of cp6.hD⟩, ?_⟩
            walk_at "go3"
            refine ⟨.ref D, rfl, .inl ⟨rfl, _, SqL.of cp6.hD⟩, ?_⟩
            walk_at "go3"
            refine ⟨D, _, (jn : Int), jn, .ref r, rfl, rfl, cp6.hD, by omega, by omega, ?_, by rw [List.getElem?_map, hr]; rfl, ?_⟩
            · rw [List.length_map]
              exact hsx
            walk_at "go3"
            refine ⟨D, _, 0, .ref r, rfl, rfl, upd_same, by rw [erase_mapR, List.length_map]; exact Nat.lt_of_le_of_lt (Nat.le_trans (List.length_eraseIdx_le _ _) (by omega : rs.length ≤ 12)) (by decide), by decide, by decide, ?_⟩
            rw [upd_upd, erase_mapR, show (((rs.eraseIdx jn).map V.ref).take (Int.toNat 0) ++ [V.ref r] ++ ((rs.eraseIdx jn).map V.ref).drop (Int.toNat 0)) = (r :: rs.eraseIdx jn).map V.ref from rfl]
            have cpA := cp6.ahead W1.1 hr hcj
            have cwA : CW (upd H6 D (.lst ((r :: rs.eraseIdx jn).map V.ref))) ([.str tj.w, .str tj.n, .bl tj.d, y] :: cs.eraseIdx jn) (tj :: ws.eraseIdx jn) := (cw1.sk (Went.sk W1.1 cpA.w)).ahead hcj htj
            have hqf := Went.sk W1.1 (cpA).w _ _ _ hq1
            walk_at "go3"
            rename_i B nB
            exact k _ _ _ ⟨B, D, _, rfl, upd_same, by rw [upd_ne (ne_of_none (cpA).hD nB)]; exact (cpA).hD, ((cpA).ways cwA).ext fun x t r => r.sk (Same.sk (same_new same_rfl nB))⟩ (choice_ahead hd htj) (W1.trans ((cpA).w.new nB))
          · have cw6' := cw1.sk (Went.sk W1.1 cp6.w)
            have hdU : TrmD 8 (.choice ws) := ⟨hd.1, fun u hu => (hd.2.1 u hu).up (by decide), hd.2.2⟩
            have hqf := Went.sk W1.1 (cp6).w _ _ _ hq1
            walk_at "go3"
            rename_i B nB
            exact k _ _ _ ⟨B, D, _, rfl, upd_same, by rw [upd_ne (ne_of_none (cp6).hD nB)]; exact (cp6).hD, ((cp6).ways cw6').ext fun x t r => r.sk (Same.sk (same_new same_rfl nB))⟩ hdU (W1.trans ((cp6).w.new nB))
    · walk_at "go3"
      refine i_itd (fun hlt => ?_) (fun hlt => ?_)
      · walk_at "go3"
        refine ⟨.ref D, rfl, .inl ⟨rfl, _, SqL.of cp6.hD⟩, ?_⟩
        walk_at "go3"
        refine ⟨.ref D, rfl, .inl ⟨rfl, _, SqL.of cp6.hD⟩, ?_⟩
        walk_at "go3"
        refine ⟨D, _, (jn : Int), jn, .ref r, rfl, rfl, cp6.hD, by omega, by omega, ?_, by rw [List.getElem?_map, hr]; rfl, ?_⟩
        · rw [List.length_map]
          exact hsx
        walk_at "go3"
        refine ⟨D, _, 0, .ref r, rfl, rfl, upd_same, by rw [erase_mapR, List.length_map]; exact Nat.lt_of_le_of_lt (Nat.le_trans (List.length_eraseIdx_le _ _) (by omega : rs.length ≤ 12)) (by decide), by decide, by decide, ?_⟩
        rw [upd_upd, erase_mapR, show (((rs.eraseIdx jn).map V.ref).take (Int.toNat 0) ++ [V.ref r] ++ ((rs.eraseIdx jn).map V.ref).drop (Int.toNat 0)) = (r :: rs.eraseIdx jn).map V.ref from rfl]
        have cpA := cp6.ahead W1.1 hr hcj
        have cwA : CW (upd H6 D (.lst ((r :: rs.eraseIdx jn).map V.ref))) ([.str tj.w, .str tj.n, .bl tj.d, y] :: cs.eraseIdx jn) (tj :: ws.eraseIdx jn) := (cw1.sk (Went.sk W1.1 cpA.w)).ahead hcj htj
        have hqf := Went.sk W1.1 (cpA).w _ _ _ hq1
        walk_at "go3"
        rename_i B nB
        exact k _ _ _ ⟨B, D, _, rfl, upd_same, by rw [upd_ne (ne_of_none (cpA).hD nB)]; exact (cpA).hD, ((cpA).ways cwA).ext fun x t r => r.sk (Same.sk (same_new same_rfl nB))⟩ (choice_ahead hd htj) (W1.trans ((cpA).w.new nB))
      · have cw6' := cw1.sk (Went.sk W1.1 cp6.w)
        have hdU : TrmD 8 (.choice ws) := ⟨hd.1, fun u hu => (hd.2.1 u hu).up (by decide), hd.2.2⟩
        have hqf := Went.sk W1.1 (cp6).w _ _ _ hq1
        walk_at "go3"
        rename_i B nB
        exact k _ _ _ ⟨B, D, _, rfl, upd_same, by rw [upd_ne (ne_of_none (cp6).hD nB)]; exact (cp6).hD, ((cp6).ways cw6').ext fun x t r => r.sk (Same.sk (same_new same_rfl nB))⟩ hdU (W1.trans ((cp6).w.new nB))
end
end Me
set_option maxHeartbeats 8000000
namespace Me
open PySem L2


end Me
local macro_rules | `(tactic| walk_at "go3") => `(tactic| repeat (first | walk_at "go1" | (with_reducible refine And.intro (a := L2.V.non = L2.V.non) rfl ?_) | ((with_reducible refine' Me.i_yes ?_ ?_); (first | rfl | exact decide_eq_true rfl)) | ((with_reducible refine' Me.i_no ?_ ?_); (first | rfl | exact decide_eq_false (fun z => absurd (L2.V.str.inj z) (by decide)) | (simp; done))) | with_reducible refine Me.i_make ?_))
namespace Me
open PySem L2
section
variable {P : Program} {w : World} {K : PySem.W.Frag} {mg : Str → Option Value} {base : Heap} {a : Ad}
def spChR : Sp := fun vs H Q _ => ∃ (p : Addr) (x : V) (ws : List PrtT), vs = [.ref p, x] ∧ StOk H p ∧ TrmT H x (.row ws) ∧ TrmD 7 (.row ws) ∧ ∀ v H' us, TrmT H' v (.row us) → TrmD 8 (.row us) → Went p H H' → Q v H'
theorem w0110 : WordS ("0110" : Str) := ⟨by decide, by decide, by decide⟩
theorem ok_chR (T : Txt K mg a) : FnOk P w K mg base CX0 7 a._law_changed.f a._law_changed.fd ["_law_state", "_law_term"] spChR := by
  have G__law_pull : FnOk P w K mg base CX0 1 a._law_pull.f a._law_pull.fd ["_law_state", "_law_many"] spPull := ok_pull T
  have G__law_name : FnOk P w K mg base CX0 2 a._law_name.f a._law_name.fd ["_law_state", "_law_taken"] spName := ok_name T
  have G__law_changed_simple : FnOk P w K mg base CX0 4 a._law_changed_simple.f a._law_changed_simple.fd ["_law_state", "_law_term"] spChS := ok_chS T
  have G__law_changed_inner : FnOk P w K mg base CX0 6 a._law_changed_inner.f a._law_changed_inner.fd ["_law_state", "_law_term"] spChN := ok_chN T
  have sc : FnScope ["_law_state", "_law_term", "_law_rows", "_law_row", "_law_at", "_law_turn", "_law_last", "_law_taken"] ["_law_state", "_law_term"] (defScope (top 47)) := ⟨rfl, rfl, rfl, by decide +kernel, rfl, by decide +kernel, by decide +kernel⟩
  refine T._law_changed.ok sc (fun vs H Q E h => ?_) (fun cdv A outer s H vs Q E hr h => ?_)
  · obtain ⟨p, x, ws, rfl, _⟩ := h
    rfl
  · obtain ⟨p, x, ws, rfl, S, ⟨q, q2, xs, rfl, hq, hq2, hal⟩, hd, k⟩ := h
    refine ⟨_, (pss_cons (ps_if (pt_cmpR op_notIn_seq (pe_ix ix_list (pv 1) pe_int (fun _ _ => rfl)) (pe_lst (pa_cons pe_str (pa_cons pe_str pa_nil))) (by rfl))
      (pss_one (ps_ret (pe_call G__law_changed_simple (hr.mono (by first | decide | omega)) rfl T._law_changed_simple.mg T._law_changed_simple.kp T._law_changed_simple.b .nil pass0 (pa_cons (pv 0) (pa_cons (pv 1) pa_nil)))))
      pss_nil)
      (pss_cons (ps_setLc (te := tCB (fun xs H Q => ∃ p ys, xs = [V.ref p] ∧ (SqL K H p ys ∨ SqT K H p ys) ∧ ∀ l, H l = none → Q (V.ref l) (upd H l (.lst ys))) (tCons (tVar 3) tNil)) (i := 2) (own := [("_law_row", 3)]) (g := gName 3) (by rfl) sc.nd rfl rfl (sw_true rfl rfl rfl (by decide +kernel)) (pi_list (pe_ix ix_list (pv 1) pe_int (fun _ _ => rfl))) (blkOk_by (own := [("_law_row", 3)]) (N := ["_law_state", "_law_term", "_law_rows", "_law_row", "_law_at", "_law_turn", "_law_last", "_law_taken"]) (sc := defScope (top 47)) (by decide +kernel)) (fun _ _ _ _ _ => pg_name (i := 3) sc.nd rfl (Or.inl rfl)) (fun _ _ _ _ _ => pts_nil) (fun _ _ _ _ _ => (by exact (pe_callTy call_list_of (by rfl) T.list (by decide +kernel) (pa_cons (pv 3) pa_nil)))))
      (pss_cons (ps_set (i := 4) sc.nd rfl (by first | exact Or.inl rfl | exact Or.inr rfl) (pe_call G__law_pull (hr.mono (by first | decide | omega)) rfl T._law_pull.mg T._law_pull.kp T._law_pull.b .nil pass0 (pa_cons (pv 0) (pa_cons (pe_callB call_len_seq (by rfl) T.len PySem.boot_len (pa_cons (pv 2) pa_nil)) pa_nil))))
      (pss_cons (ps_set (i := 5) sc.nd rfl (by first | exact Or.inl rfl | exact Or.inr rfl) (pe_call G__law_pull (hr.mono (by first | decide | omega)) rfl T._law_pull.mg T._law_pull.kp T._law_pull.b .nil pass0 (pa_cons (pv 0) (pa_cons pe_int pa_nil))))
      (pss_cons (ps_set (i := 6) sc.nd rfl (by first | exact Or.inl rfl | exact Or.inr rfl) (pe_op op_sub (pe_callB call_len_seq (by rfl) T.len PySem.boot_len (pa_cons (pe_ix ix_list (pv 2) (pv 4) (fun _ _ => rfl)) pa_nil)) pe_int))
      (pss_cons (ps_setLc (te := tOp (rIxL K) (tVar 3) (tC (.int 1))) (i := 7) (own := [("_law_row", 3)]) (g := gName 3) (by rfl) sc.nd rfl rfl (sw_true rfl rfl rfl (by decide +kernel)) (pi_list (pv 2)) (blkOk_by (own := [("_law_row", 3)]) (N := ["_law_state", "_law_term", "_law_rows", "_law_row", "_law_at", "_law_turn", "_law_last", "_law_taken"]) (sc := defScope (top 47)) (by decide +kernel)) (fun _ _ _ _ _ => pg_name (i := 3) sc.nd rfl (Or.inl rfl)) (fun _ _ _ _ _ => pts_nil) (fun _ _ _ _ _ => (by exact (pe_ix ix_list (pv 3) pe_int (fun _ _ => rfl)))))
      (pss_cons (ps_if (pt_cmpR op_eq (pv 5) pe_int (nomark _))
      (pss_one (ps_asg (pe_call G__law_name (hr.mono (by first | decide | omega)) rfl T._law_name.mg T._law_name.kp T._law_name.b .nil pass0 (pa_cons (pv 0) (pa_cons (pv 7) pa_nil))) (pg_sub (pe_ix ix_list (pv 2) (pv 4) (fun _ _ => rfl)) pe_int set_list)))
      (pss_one (ps_if (pt_cmpR op_eq (pv 5) pe_int (nomark _))
      (pss_one (ps_asg (pe_call G__law_changed_inner (hr.mono (by first | decide | omega)) rfl T._law_changed_inner.mg T._law_changed_inner.kp T._law_changed_inner.b .nil pass0 (pa_cons (pv 0) (pa_cons (pe_ix ix_list (pe_ix ix_list (pv 2) (pv 4) (fun _ _ => rfl)) (pv 6) (fun _ _ => rfl)) pa_nil))) (pg_sub (pe_ix ix_list (pv 2) (pv 4) (fun _ _ => rfl)) (pv 6) set_list)))
      (pss_one (ps_if (PW.pt (pw_and (pt_cmpR op_eq (pv 5) pe_int (nomark _)) (pw_and (pt_cmpR op_ne (pe_ix ix_list (pe_ix ix_list (pv 2) (pv 4) (fun _ _ => rfl)) pe_int (fun _ _ => rfl)) pe_str (nomark _)) (pw_and1 (pt_cmpR op_lt (pe_callB call_len_str (by rfl) T.len PySem.boot_len (pa_cons (pe_ix ix_list (pe_ix ix_list (pv 2) (pv 4) (fun _ _ => rfl)) pe_int (fun _ _ => rfl)) pa_nil)) pe_int (nomark _))))))
      (pss_one (ps_asg (pe_op op_add_str (pe_ix ix_list (pe_ix ix_list (pv 2) (pv 4) (fun _ _ => rfl)) pe_int (fun _ _ => rfl)) (pe_ix ix_str pe_str (pe_call G__law_pull (hr.mono (by first | decide | omega)) rfl T._law_pull.mg T._law_pull.kp T._law_pull.b .nil pass0 (pa_cons (pv 0) (pa_cons pe_int pa_nil))) (fun _ _ => rfl))) (pg_sub (pe_ix ix_list (pv 2) (pv 4) (fun _ _ => rfl)) pe_int set_list)))
      (pss_one (ps_if (PW.pt (pw_and (pt_cmpR op_eq (pv 5) pe_int (nomark _)) (pw_and (pt_cmpR op_eq (pe_ix ix_list (pv 1) pe_int (fun _ _ => rfl)) pe_str (nomark _)) (pw_and (pt_cmpR op_notN (pe_ix ix_list (pe_ix ix_list (pv 2) (pv 4) (fun _ _ => rfl)) pe_int (fun _ _ => rfl)) pe_non (nomark _)) (pw_and1 (pt_cmpR op_gt (pv 4) pe_int (nomark _)))))))
      (pss_one (ps_asg (pe_not (pe_ix ix_list (pe_ix ix_list (pv 2) (pv 4) (fun _ _ => rfl)) pe_int (fun _ _ => rfl))) (pg_sub (pe_ix ix_list (pv 2) (pv 4) (fun _ _ => rfl)) pe_int set_list)))
      (pss_one (ps_if (PW.pt (pw_and (pt_cmpR op_eq (pv 5) pe_int (nomark _)) (pw_and (pt_cmpR op_eq (pe_ix ix_list (pv 1) pe_int (fun _ _ => rfl)) pe_str (nomark _)) (pw_and (pt_cmpR op_lt (pv 4) (pe_op op_sub (pe_callB call_len_seq (by rfl) T.len PySem.boot_len (pa_cons (pv 2) pa_nil)) pe_int) (nomark _)) (pw_and1 (pt_cmpR op_notN (pe_ix ix_list (pe_ix ix_list (pv 2) (pv 4) (fun _ _ => rfl)) pe_int (fun _ _ => rfl)) pe_non (nomark _)))))))
      (pss_one (ps_asg (pe_ix ix_list (pe_lst (pa_cons pe_str (pa_cons pe_str pa_nil))) (pe_callTy call_int1 (by rfl) T.int (by decide +kernel) (pa_cons (pe_cmpR op_eq (pe_ix ix_list (pe_ix ix_list (pv 2) (pv 4) (fun _ _ => rfl)) pe_int (fun _ _ => rfl)) pe_str (nomark _)) pa_nil)) (fun _ _ => rfl)) (pg_sub (pe_ix ix_list (pv 2) (pv 4) (fun _ _ => rfl)) pe_int set_list)))
      (pss_one (ps_if (pt_cmpR op_lt (pv 4) (pe_op op_sub (pe_callB call_len_seq (by rfl) T.len PySem.boot_len (pa_cons (pv 2) pa_nil)) pe_int) (nomark _))
      (pss_one (ps_expr (pe_bm PySem.F.plainAttrs_list PySem.F.slot_list_insert PySem.F.type_list_insert mt_insert (pv 2) (pa_cons pe_int (pa_cons (pe_bm PySem.F.plainAttrs_list PySem.F.slot_list_pop PySem.F.type_list_pop mt_popAt (pv 2) (pa_cons (pv 4) pa_nil)) pa_nil)))))
      pss_nil)))))))))))
      (pss_one (ps_ret (pe_lst (pa_cons (pe_ix ix_list (pv 1) pe_int (fun _ _ => rfl)) (pa_cons (pv 2) pa_nil)))))))))))), ?_⟩
    walk_at "go3"
    rename_i N nN
    refine i_inS (neg := true) (ts := ["choice", "row"]) upd_same ⟨_, rfl, i_no (by decide) ?_⟩
    have s1 := same_new (o := .lst [.str "choice", .str "row"]) same_rfl nN
    have W1 : Went p H (upd H N (.lst [.str "choice", .str "row"])) := (Went.rfl' S).new nN
    generalize upd H N (.lst [.str "choice", .str "row"]) = H1 at s1 W1 ⊢
    have hq1 := s1 _ _ hq
    have hq21 := s1 _ _ hq2
    have hal1 : AllO PrtR H1 xs ws := hal.ext fun x t r => r.sk (Same.sk s1)
    obtain ⟨cs, cw1, hxc⟩ := contP hal1
    have hlw : ws.length ≤ 8 := hd.1.2
    have hl1 : 1 ≤ ws.length := hd.1.1
    have hlx : xs.length = ws.length := hal1.1
    walk_at "go3"
    refine copy_le cs (fun R q => by walk_at "go"; exact q) hq21 (Nat.lt_of_le_of_lt (show xs.length ≤ 12 by omega) (by decide)) (fun _ => rfl) (hlx.trans cw1.1.symm) hxc (fun r c H3 R h3 q => ?_) (fun D rs H3 nD s3 hD hrl hnd hfr hat => ?_)
    · walk_at "go3"
      exact q
    have cp3 : Cp p H1 H3 D rs cs := ⟨hD, hrl, hnd, hfr, hat, nD, went_same W1.1 s3⟩
    have Dp := W1.1.ne nD
    have hrw : rs.length = ws.length := hrl.trans cw1.1
    walk_at "go3"
    refine ⟨p, _, rfl, cp3.w.1, by rw [List.length_map]; omega, by rw [List.length_map]; omega, fun ia H4 a0 a1 w4 => ?_⟩
    have cp4 := cp3.went W1.1 w4
    walk_at "go3"
    refine ⟨p, _, rfl, w4.1, by decide, by decide, fun r5 H5 b0 b1 w5 => ?_⟩
    have cp5 := cp4.went W1.1 w5
    obtain ⟨jn, rfl⟩ := Int.eq_ofNat_of_zero_le a0
    have hjr : jn < rs.length := by rw [List.length_map] at a1; omega
    obtain ⟨r, hr⟩ : ∃ r, rs[jn]? = some r := ⟨rs[jn], List.getElem?_eq_getElem hjr⟩
    have hati : atI (rs.map V.ref) ((jn : Nat) : Int) = some (.ref r) := atI_nat (by rw [List.getElem?_map, hr]; rfl)
    obtain ⟨c, hcj⟩ : ∃ c, cs[jn]? = some c := ⟨cs[jn]'(by omega), List.getElem?_eq_getElem (by omega)⟩
    obtain ⟨tj, y, htj, rfl, hy1⟩ := cw1.2 jn c hcj
    have hr5 := cp5.at_ jn r _ hr hcj
    have wdj := hd.2.1 tj (List.mem_of_getElem? htj)
    walk_at "go3"
    refine i_ixl cp5.hD hati ?_
    walk_at "go3"
    refine many_le (xs := rs.map V.ref) (fun i v _ => ∃ u, ws[i]? = some u ∧ v = .str u.n) (fun _ _ _ _ _ h => h) (fun R q => by walk_at "go"; exact q) (SqL.of cp5.hD) (by rw [List.length_map]; exact Nat.lt_of_le_of_lt (show rs.length ≤ 12 by omega) (by decide)) (fun _ => rfl) (fun i x H6 R hx s6 q => ?_) (fun t ys H6 nt s6 ht hly hys => ?_)
    · rw [List.getElem?_map] at hx
      cases hu : rs[i]? with
      | none => rw [hu] at hx; cases hx
      | some u =>
        rw [hu] at hx
        cases hx
        have hic : i < cs.length := by rw [← hrl]; exact (List.getElem?_eq_some_iff.mp hu).1
        obtain ⟨tu, yu, htu, e, _⟩ := cw1.2 i _ (List.getElem?_eq_getElem hic)
        have hu6 : H6 u = some (.lst [.str tu.w, .str tu.n, yu]) := s6 _ _ (by rw [← e]; exact cp5.at_ i u _ hu (List.getElem?_eq_getElem hic))
        walk_at "go3"
        exact q _ _ same_rfl ⟨tu, htu, rfl⟩
    have hns : ys = (ws.map (·.n)).map V.str := by
      refine List.ext_getElem? fun i => ?_
      rw [List.map_map, List.getElem?_map]
      cases hy : ys[i]? with
      | none =>
        have := List.getElem?_eq_none_iff.mp hy
        rw [hly, List.length_map, hrw] at this
        rw [List.getElem?_eq_none this]; rfl
      | some v =>
        obtain ⟨u, hu, rfl⟩ := hys i v hy
        rw [hu]; rfl
    subst hns
    have W56 : Went p H5 H6 := went_same w5.1 s6
    have cp6 := cp5.went W1.1 W56
    have ntD : t ≠ D := fun e => by rw [e, cp5.hD] at nt; cases nt
    have ntr : ∀ u ∈ rs, t ≠ u := fun u hu e => by
      obtain ⟨i, hi⟩ := List.getElem?_of_mem hu
      have hic : i < cs.length := by rw [← hrl]; exact (List.getElem?_eq_some_iff.mp hi).1
      rw [e, cp5.at_ i u _ hi (List.getElem?_eq_getElem hic)] at nt
      cases nt
    have nt1 : H1 t = none := went_dom cp5.w _ nt
    have tp := W1.1.ne nt1
    have hr6 := s6 _ _ hr5
    have hsx : seqIndex? ((jn : Nat) : Int) rs.length = some jn := (ixN_seq (by unfold ixN; rw [if_pos (by omega), if_pos (by omega)]; simp)).1
    walk_at "go3"
    have nx : ∀ {i j : Int}, i ≠ j → decide (V.int i = V.int j) = false := fun h => decide_eq_false fun z => h (V.int.inj z)
    have hq6 := Went.sk W1.1 cp6.w _ _ _ hq1
    have h5 : r5 = 0 ∨ r5 = 1 ∨ r5 = 2 ∨ r5 = 3 ∨ r5 = 4 := by omega
    rcases h5 with rfl | rfl | rfl | rfl | rfl
    · refine i_yes (decide_eq_true rfl) ?_
      walk_at "go3"
      refine ⟨p, t, ws.map (·.n), rfl, cp6.w.1, ht, tp, by rw [List.length_map]; omega, st_fresh W1.1 cp6.w nt1, fun z H8 hz hzn w8 ht8 st8 => ?_⟩
      have cp8 := cp6.went2 W1.1 nt1 ntD ntr w8 st8
      have hr8 := cp8.at_ jn r _ hr hcj
      walk_at "go3"
      refine i_ixl cp8.hD hati ?_
      walk_at "go3"
      rw [show ([V.str tj.w, V.str tj.n, y].set (Int.toNat 1) (V.str z)) = [.str tj.w, .str z, y] from rfl]
      have cpA := cp8.set W1.1 hr (c := [.str tj.w, .str z, y])
      have cwA : CP (upd H8 r (.lst [.str tj.w, .str z, y])) (cs.set jn [.str tj.w, .str z, y]) (ws.set jn ⟨tj.w, z, tj.k⟩) := CP.set (t := ⟨tj.w, z, tj.k⟩) (cw1.sk (Went.sk W1.1 cpA.w)) (hy1.sk (Went.sk W1.1 cpA.w))
      have hdU : TrmD 8 (.row (ws.set jn ⟨tj.w, z, tj.k⟩)) := row_set hd htj ⟨hz, wdj.2.1.up (by decide), wdj.2.2⟩ (.inr hzn) (fun h _ => h)
      have hqf := Went.sk W1.1 (cpA).w _ _ _ hq1
      walk_at "go3"
      rename_i B nB
      exact k _ _ _ ⟨B, D, _, rfl, upd_same, by rw [upd_ne (ne_of_none (cpA).hD nB)]; exact (cpA).hD, ((cpA).parts cwA).ext fun x t r => r.sk (Same.sk (same_new same_rfl nB))⟩ hdU (W1.trans ((cpA).w.new nB))
    · walk_at "go3"
      refine i_ixl cp6.hD hati ?_
      walk_at "go3"
      refine ⟨p, y, tj.k, rfl, cp6.w.1, hy1.sk (Went.sk W1.1 cp6.w), wdj.2.1, fun v H8 g hg hgd w8 => ?_⟩
      have cp8 := cp6.went W1.1 w8
      have hr8 := cp8.at_ jn r _ hr hcj
      walk_at "go3"
      refine i_ixl cp8.hD hati ?_
      walk_at "go3"
      rw [show ([V.str tj.w, V.str tj.n, y].set (Int.toNat (↑[V.str tj.w, V.str tj.n, y].length - 1)) v) = [.str tj.w, .str tj.n, v] from rfl]
      have cpA := cp8.set W1.1 hr (c := [.str tj.w, .str tj.n, v])
      have cwA : CP (upd H8 r (.lst [.str tj.w, .str tj.n, v])) (cs.set jn [.str tj.w, .str tj.n, v]) (ws.set jn ⟨tj.w, tj.n, .smp g⟩) := CP.set (t := ⟨tj.w, tj.n, .smp g⟩) (cw1.sk (Went.sk W1.1 cpA.w)) (InnT.row (k := .smp g) hg hr8)
      have hdU : TrmD 8 (.row (ws.set jn ⟨tj.w, tj.n, .smp g⟩)) := row_set hd htj ⟨wdj.1, hgd, (fun z => by cases z), (fun _ z => by cases z), wdj.2.2.2.2⟩ (.inl rfl) (fun h _ => h)
      have hqf := Went.sk W1.1 (cpA).w _ _ _ hq1
      walk_at "go3"
      rename_i B nB
      exact k _ _ _ ⟨B, D, _, rfl, upd_same, by rw [upd_ne (ne_of_none (cpA).hD nB)]; exact (cpA).hD, ((cpA).parts cwA).ext fun x t r => r.sk (Same.sk (same_new same_rfl nB))⟩ hdU (W1.trans ((cpA).w.new nB))
    · walk_at "go3"
      refine i_ixl cp6.hD hati ?_
      walk_at "go3"
      by_cases wne : tj.w = ("" : Str)
      · refine i_no (by rw [wne, decide_eq_true rfl]; rfl) ?_
        walk_at "go3"
        refine i_itd (fun hlt => ?_) (fun hlt => ?_)
        · walk_at "go3"
          refine ⟨.ref D, rfl, .inl ⟨rfl, _, SqL.of cp6.hD⟩, ?_⟩
          walk_at "go3"
          refine ⟨.ref D, rfl, .inl ⟨rfl, _, SqL.of cp6.hD⟩, ?_⟩
          walk_at "go3"
          refine ⟨D, _, (jn : Int), jn, .ref r, rfl, rfl, cp6.hD, by omega, by omega, ?_, by rw [List.getElem?_map, hr]; rfl, ?_⟩
          · rw [List.length_map]
            exact hsx
          walk_at "go3"
          refine ⟨D, _, 0, .ref r, rfl, rfl, upd_same, by rw [erase_mapR, List.length_map]; exact Nat.lt_of_le_of_lt (Nat.le_trans (List.length_eraseIdx_le _ _) (by omega : rs.length ≤ 12)) (by decide), by decide, by decide, ?_⟩
          rw [upd_upd, erase_mapR, show (((rs.eraseIdx jn).map V.ref).take (Int.toNat 0) ++ [V.ref r] ++ ((rs.eraseIdx jn).map V.ref).drop (Int.toNat 0)) = (r :: rs.eraseIdx jn).map V.ref from rfl]
          have cpA := cp6.ahead W1.1 hr hcj
          have cwA : CP (upd H6 D (.lst ((r :: rs.eraseIdx jn).map V.ref))) ([.str tj.w, .str tj.n, y] :: cs.eraseIdx jn) (tj :: ws.eraseIdx jn) := (cw1.sk (Went.sk W1.1 cpA.w)).ahead hcj htj
          have hqf := Went.sk W1.1 (cpA).w _ _ _ hq1
          walk_at "go3"
          rename_i B nB
          exact k _ _ _ ⟨B, D, _, rfl, upd_same, by rw [upd_ne (ne_of_none (cpA).hD nB)]; exact (cpA).hD, ((cpA).parts cwA).ext fun x t r => r.sk (Same.sk (same_new same_rfl nB))⟩ (row_ahead hd htj (by rw [List.length_map] at hlt; omega)) (W1.trans ((cpA).w.new nB))
        · have cw6' := cw1.sk (Went.sk W1.1 cp6.w)
          have hdU : TrmD 8 (.row ws) := ⟨hd.1, fun u hu => (hd.2.1 u hu).up (by decide), hd.2.2⟩
          have hqf := Went.sk W1.1 (cp6).w _ _ _ hq1
          walk_at "go3"
          rename_i B nB
          exact k _ _ _ ⟨B, D, _, rfl, upd_same, by rw [upd_ne (ne_of_none (cp6).hD nB)]; exact (cp6).hD, ((cp6).parts cw6').ext fun x t r => r.sk (Same.sk (same_new same_rfl nB))⟩ hdU (W1.trans ((cp6).w.new nB))
      have wS := wdj.2.2.2.2 wne
      refine i_yes (by rw [decide_eq_false (fun z => wne (V.str.inj z))]; rfl) ?_
      walk_at "go3"
      refine i_ixl cp6.hD hati ?_
      walk_at "go3"
      refine ⟨tj.w, rfl, Nat.le_trans wS.l8 (by decide), ?_⟩
      walk_at "go3"
      refine i_itd (fun h8 => ?_) (fun h8 => ?_)
      · walk_at "go3"
        refine i_ixl cp6.hD hati ?_
        walk_at "go3"
        refine ⟨p, _, rfl, cp6.w.1, by decide, by decide, fun r4 H8 q0 q1 w8 => ?_⟩
        have cp8 := cp6.went W1.1 w8
        have hr8 := cp8.at_ jn r _ hr hcj
        have hl : (("01" : Str).cps.toList).length = 2 := by decide
        obtain ⟨ch, hch, hmem⟩ := at_mem' (xs := ("01" : Str).cps.toList) q0 (by rw [hl]; omega)
        have hcb : bitB ch = true := by
          have : ∀ c ∈ ("01" : Str).cps.toList, bitB c = true := by decide
          exact this ch hmem
        refine ⟨_, r4, ch, rfl, rfl, by decide, hch, ?_⟩
        refine ⟨_, _, rfl, rfl, Nat.le_trans (show tj.w.length + 1 ≤ 10 by omega) (by decide), ?_⟩
        walk_at "go3"
        refine i_ixl cp8.hD hati ?_
        walk_at "go3"
        rw [show ([V.str tj.w, V.str tj.n, y].set (Int.toNat 0) (V.str (tj.w ++ ⟨#[ch]⟩))) = [.str (tj.w ++ ⟨#[ch]⟩), .str tj.n, y] from rfl]
        have cpA := cp8.set W1.1 hr (c := [.str (tj.w ++ ⟨#[ch]⟩), .str tj.n, y])
        have cwA : CP (upd H8 r (.lst [.str (tj.w ++ ⟨#[ch]⟩), .str tj.n, y])) (cs.set jn [.str (tj.w ++ ⟨#[ch]⟩), .str tj.n, y]) (ws.set jn ⟨tj.w ++ ⟨#[ch]⟩, tj.n, tj.k⟩) := CP.set (t := ⟨tj.w ++ ⟨#[ch]⟩, tj.n, tj.k⟩) (cw1.sk (Went.sk W1.1 cpA.w)) (hy1.sk (Went.sk W1.1 cpA.w))
        have wl : (tj.w ++ (⟨#[ch]⟩ : Str)).length = tj.w.length + 1 := by rw [len_add]; rfl
        have hdU : TrmD 8 (.row (ws.set jn ⟨tj.w ++ ⟨#[ch]⟩, tj.n, tj.k⟩)) := row_set hd htj ⟨wdj.1, wdj.2.1.up (by decide), wdj.2.2.1, (fun z => by have z' : tj.w ++ (⟨#[ch]⟩ : Str) = ("" : Str) := z; rw [z'] at wl; exact absurd wl (by show ¬ 0 = _; omega)), fun _ => ⟨by rw [wl]; omega, by rw [wl]; omega, bits_add wS.b (by simp [bitsS, hcb])⟩⟩ (.inl rfl) (fun h => absurd h wne)
        have hqf := Went.sk W1.1 (cpA).w _ _ _ hq1
        walk_at "go3"
        rename_i B nB
        exact k _ _ _ ⟨B, D, _, rfl, upd_same, by rw [upd_ne (ne_of_none (cpA).hD nB)]; exact (cpA).hD, ((cpA).parts cwA).ext fun x t r => r.sk (Same.sk (same_new same_rfl nB))⟩ hdU (W1.trans ((cpA).w.new nB))
      · walk_at "go3"
        walk_at "go3"
        refine i_itd (fun hlt => ?_) (fun hlt => ?_)
        · walk_at "go3"
          refine ⟨.ref D, rfl, .inl ⟨rfl, _, SqL.of cp6.hD⟩, ?_⟩
          walk_at "go3"
          refine ⟨.ref D, rfl, .inl ⟨rfl, _, SqL.of cp6.hD⟩, ?_⟩
          walk_at "go3"
          refine ⟨D, _, (jn : Int), jn, .ref r, rfl, rfl, cp6.hD, by omega, by omega, ?_, by rw [List.getElem?_map, hr]; rfl, ?_⟩
          · rw [List.length_map]
            exact hsx
          walk_at "go3"
          refine ⟨D, _, 0, .ref r, rfl, rfl, upd_same, by rw [erase_mapR, List.length_map]; exact Nat.lt_of_le_of_lt (Nat.le_trans (List.length_eraseIdx_le _ _) (by omega : rs.length ≤ 12)) (by decide), by decide, by decide, ?_⟩
          rw [upd_upd, erase_mapR, show (((rs.eraseIdx jn).map V.ref).take (Int.toNat 0) ++ [V.ref r] ++ ((rs.eraseIdx jn).map V.ref).drop (Int.toNat 0)) = (r :: rs.eraseIdx jn).map V.ref from rfl]
          have cpA := cp6.ahead W1.1 hr hcj
          have cwA : CP (upd H6 D (.lst ((r :: rs.eraseIdx jn).map V.ref))) ([.str tj.w, .str tj.n, y] :: cs.eraseIdx jn) (tj :: ws.eraseIdx jn) := (cw1.sk (Went.sk W1.1 cpA.w)).ahead hcj htj
          have hqf := Went.sk W1.1 (cpA).w _ _ _ hq1
          walk_at "go3"
          rename_i B nB
          exact k _ _ _ ⟨B, D, _, rfl, upd_same, by rw [upd_ne (ne_of_none (cpA).hD nB)]; exact (cpA).hD, ((cpA).parts cwA).ext fun x t r => r.sk (Same.sk (same_new same_rfl nB))⟩ (row_ahead hd htj (by rw [List.length_map] at hlt; omega)) (W1.trans ((cpA).w.new nB))
        · have cw6' := cw1.sk (Went.sk W1.1 cp6.w)
          have hdU : TrmD 8 (.row ws) := ⟨hd.1, fun u hu => (hd.2.1 u hu).up (by decide), hd.2.2⟩
          have hqf := Went.sk W1.1 (cp6).w _ _ _ hq1
          walk_at "go3"
          rename_i B nB
          exact k _ _ _ ⟨B, D, _, rfl, upd_same, by rw [upd_ne (ne_of_none (cp6).hD nB)]; exact (cp6).hD, ((cp6).parts cw6').ext fun x t r => r.sk (Same.sk (same_new same_rfl nB))⟩ hdU (W1.trans ((cp6).w.new nB))
    · walk_at "go3"
      refine i_itd (fun hlt => ?_) (fun hlt => ?_)
      · walk_at "go3"
        refine i_ixl cp6.hD hati ?_
        walk_at "go3"
        by_cases yn : y = .non
        · refine i_no (by rw [decide_eq_true yn]; rfl) ?_
          walk_at "go3"
          refine i_itd (fun hlu => ?_) (fun hlu => ?_)
          · walk_at "go3"
            refine ⟨.ref D, rfl, .inl ⟨rfl, _, SqL.of cp6.hD⟩, ?_⟩
            walk_at "go3"
            refine ⟨.ref D, rfl, .inl ⟨rfl, _, SqL.of cp6.hD⟩, ?_⟩
            walk_at "go3"
            refine ⟨D, _, (jn : Int), jn, .ref r, rfl, rfl, cp6.hD, by omega, by omega, ?_, by rw [List.getElem?_map, hr]; rfl, ?_⟩
            · rw [List.length_map]
              exact hsx
            walk_at "go3"
            refine ⟨D, _, 0, .ref r, rfl, rfl, upd_same, by rw [erase_mapR, List.length_map]; exact Nat.lt_of_le_of_lt (Nat.le_trans (List.length_eraseIdx_le _ _) (by omega : rs.length ≤ 12)) (by decide), by decide, by decide, ?_⟩
            rw [upd_upd, erase_mapR, show (((rs.eraseIdx jn).map V.ref).take (Int.toNat 0) ++ [V.ref r] ++ ((rs.eraseIdx jn).map V.ref).drop (Int.toNat 0)) = (r :: rs.eraseIdx jn).map V.ref from rfl]
            have cpA := cp6.ahead W1.1 hr hcj
            have cwA : CP (upd H6 D (.lst ((r :: rs.eraseIdx jn).map V.ref))) ([.str tj.w, .str tj.n, y] :: cs.eraseIdx jn) (tj :: ws.eraseIdx jn) := (cw1.sk (Went.sk W1.1 cpA.w)).ahead hcj htj
            have hqf := Went.sk W1.1 (cpA).w _ _ _ hq1
            walk_at "go3"
            rename_i B nB
            exact k _ _ _ ⟨B, D, _, rfl, upd_same, by rw [upd_ne (ne_of_none (cpA).hD nB)]; exact (cpA).hD, ((cpA).parts cwA).ext fun x t r => r.sk (Same.sk (same_new same_rfl nB))⟩ (row_ahead hd htj (by rw [List.length_map] at hlt; omega)) (W1.trans ((cpA).w.new nB))
          · have cw6' := cw1.sk (Went.sk W1.1 cp6.w)
            have hdU : TrmD 8 (.row ws) := ⟨hd.1, fun u hu => (hd.2.1 u hu).up (by decide), hd.2.2⟩
            have hqf := Went.sk W1.1 (cp6).w _ _ _ hq1
            walk_at "go3"
            rename_i B nB
            exact k _ _ _ ⟨B, D, _, rfl, upd_same, by rw [upd_ne (ne_of_none (cp6).hD nB)]; exact (cp6).hD, ((cp6).parts cw6').ext fun x t r => r.sk (Same.sk (same_new same_rfl nB))⟩ hdU (W1.trans ((cp6).w.new nB))
        · refine i_yes (by rw [decide_eq_false yn]; rfl) ?_
          have kne : tj.k ≠ .non := fun z => yn (by rw [z] at hy1; exact hy1)
          walk_at "go3"
          rename_i L nL
          have cp7 := cp6.went W1.1 ((Went.rfl' cp6.w.1).new (o := .lst [.str "", .str "0110"]) nL)
          have hr7 := cp7.at_ jn r _ hr hcj
          refine i_ixl cp7.hD hati ?_
          walk_at "go3"
          by_cases w0 : tj.w = ("" : Str)
          · rw [w0, decide_eq_true rfl]
            refine .inr ⟨true, rfl, ?_⟩
            refine i_ixl (show upd H6 L (.lst [.str "", .str "0110"]) L = _ from upd_same) (v := .str "0110") rfl ?_
            walk_at "go3"
            refine i_ixl cp7.hD hati ?_
            walk_at "go3"
            rw [show ([V.str tj.w, V.str tj.n, y].set (Int.toNat 0) (V.str "0110")) = [.str "0110", .str tj.n, y] from rfl]
            have cpA := cp7.set W1.1 hr (c := [.str "0110", .str tj.n, y])
            have cwA : CP (upd (upd H6 L (.lst [.str "", .str "0110"])) r (.lst [.str "0110", .str tj.n, y])) (cs.set jn [.str "0110", .str tj.n, y]) (ws.set jn ⟨"0110", tj.n, tj.k⟩) := CP.set (t := ⟨"0110", tj.n, tj.k⟩) (cw1.sk (Went.sk W1.1 cpA.w)) (hy1.sk (Went.sk W1.1 cpA.w))
            have hdU : TrmD 8 (.row (ws.set jn ⟨"0110", tj.n, tj.k⟩)) := row_set hd htj ⟨wdj.1, wdj.2.1.up (by decide), wdj.2.2.1, (fun _ => kne), (fun h => w0110)⟩ (.inl rfl) (fun _ h => by rw [List.length_map] at hlt; omega)
            have hqf := Went.sk W1.1 (cpA).w _ _ _ hq1
            walk_at "go3"
            rename_i B nB
            exact k _ _ _ ⟨B, D, _, rfl, upd_same, by rw [upd_ne (ne_of_none (cpA).hD nB)]; exact (cpA).hD, ((cpA).parts cwA).ext fun x t r => r.sk (Same.sk (same_new same_rfl nB))⟩ hdU (W1.trans ((cpA).w.new nB))
          · rw [decide_eq_false (fun z => w0 (V.str.inj z))]
            refine .inr ⟨false, rfl, ?_⟩
            refine i_ixl (show upd H6 L (.lst [.str "", .str "0110"]) L = _ from upd_same) (v := .str "") rfl ?_
            walk_at "go3"
            refine i_ixl cp7.hD hati ?_
            walk_at "go3"
            rw [show ([V.str tj.w, V.str tj.n, y].set (Int.toNat 0) (V.str "")) = [.str "", .str tj.n, y] from rfl]
            have cpA := cp7.set W1.1 hr (c := [.str "", .str tj.n, y])
            have cwA : CP (upd (upd H6 L (.lst [.str "", .str "0110"])) r (.lst [.str "", .str tj.n, y])) (cs.set jn [.str "", .str tj.n, y]) (ws.set jn ⟨"", tj.n, tj.k⟩) := CP.set (t := ⟨"", tj.n, tj.k⟩) (cw1.sk (Went.sk W1.1 cpA.w)) (hy1.sk (Went.sk W1.1 cpA.w))
            have hdU : TrmD 8 (.row (ws.set jn ⟨"", tj.n, tj.k⟩)) := row_set hd htj ⟨wdj.1, wdj.2.1.up (by decide), wdj.2.2.1, (fun _ => kne), (fun h => absurd rfl h)⟩ (.inl rfl) (fun _ _ => rfl)
            have hqf := Went.sk W1.1 (cpA).w _ _ _ hq1
            walk_at "go3"
            rename_i B nB
            exact k _ _ _ ⟨B, D, _, rfl, upd_same, by rw [upd_ne (ne_of_none (cpA).hD nB)]; exact (cpA).hD, ((cpA).parts cwA).ext fun x t r => r.sk (Same.sk (same_new same_rfl nB))⟩ hdU (W1.trans ((cpA).w.new nB))
      · walk_at "go3"
        refine i_itd (fun hlu => ?_) (fun hlu => ?_)
        · walk_at "go3"
          refine ⟨.ref D, rfl, .inl ⟨rfl, _, SqL.of cp6.hD⟩, ?_⟩
          walk_at "go3"
          refine ⟨.ref D, rfl, .inl ⟨rfl, _, SqL.of cp6.hD⟩, ?_⟩
          walk_at "go3"
          refine ⟨D, _, (jn : Int), jn, .ref r, rfl, rfl, cp6.hD, by omega, by omega, ?_, by rw [List.getElem?_map, hr]; rfl, ?_⟩
          · rw [List.length_map]
            exact hsx
          walk_at "go3"
          refine ⟨D, _, 0, .ref r, rfl, rfl, upd_same, by rw [erase_mapR, List.length_map]; exact Nat.lt_of_le_of_lt (Nat.le_trans (List.length_eraseIdx_le _ _) (by omega : rs.length ≤ 12)) (by decide), by decide, by decide, ?_⟩
          rw [upd_upd, erase_mapR, show (((rs.eraseIdx jn).map V.ref).take (Int.toNat 0) ++ [V.ref r] ++ ((rs.eraseIdx jn).map V.ref).drop (Int.toNat 0)) = (r :: rs.eraseIdx jn).map V.ref from rfl]
          have cpA := cp6.ahead W1.1 hr hcj
          have cwA : CP (upd H6 D (.lst ((r :: rs.eraseIdx jn).map V.ref))) ([.str tj.w, .str tj.n, y] :: cs.eraseIdx jn) (tj :: ws.eraseIdx jn) := (cw1.sk (Went.sk W1.1 cpA.w)).ahead hcj htj
          have hqf := Went.sk W1.1 (cpA).w _ _ _ hq1
          walk_at "go3"
          rename_i B nB
          exact k _ _ _ ⟨B, D, _, rfl, upd_same, by rw [upd_ne (ne_of_none (cpA).hD nB)]; exact (cpA).hD, ((cpA).parts cwA).ext fun x t r => r.sk (Same.sk (same_new same_rfl nB))⟩ (row_ahead hd htj (by rw [List.length_map] at hlu; omega)) (W1.trans ((cpA).w.new nB))
        · have cw6' := cw1.sk (Went.sk W1.1 cp6.w)
          have hdU : TrmD 8 (.row ws) := ⟨hd.1, fun u hu => (hd.2.1 u hu).up (by decide), hd.2.2⟩
          have hqf := Went.sk W1.1 (cp6).w _ _ _ hq1
          walk_at "go3"
          rename_i B nB
          exact k _ _ _ ⟨B, D, _, rfl, upd_same, by rw [upd_ne (ne_of_none (cp6).hD nB)]; exact (cp6).hD, ((cp6).parts cw6').ext fun x t r => r.sk (Same.sk (same_new same_rfl nB))⟩ hdU (W1.trans ((cp6).w.new nB))
    · walk_at "go3"
      refine i_itd (fun hlt => ?_) (fun hlt => ?_)
      · walk_at "go3"
        refine ⟨.ref D, rfl, .inl ⟨rfl, _, SqL.of cp6.hD⟩, ?_⟩
        walk_at "go3"
        refine ⟨.ref D, rfl, .inl ⟨rfl, _, SqL.of cp6.hD⟩, ?_⟩
        walk_at "go3"
        refine ⟨D, _, (jn : Int), jn, .ref r, rfl, rfl, cp6.hD, by omega, by omega, ?_, by rw [List.getElem?_map, hr]; rfl, ?_⟩
        · rw [List.length_map]
          exact hsx
        walk_at "go3"
        refine ⟨D, _, 0, .ref r, rfl, rfl, upd_same, by rw [erase_mapR, List.length_map]; exact Nat.lt_of_le_of_lt (Nat.le_trans (List.length_eraseIdx_le _ _) (by omega : rs.length ≤ 12)) (by decide), by decide, by decide, ?_⟩
        rw [upd_upd, erase_mapR, show (((rs.eraseIdx jn).map V.ref).take (Int.toNat 0) ++ [V.ref r] ++ ((rs.eraseIdx jn).map V.ref).drop (Int.toNat 0)) = (r :: rs.eraseIdx jn).map V.ref from rfl]
        have cpA := cp6.ahead W1.1 hr hcj
        have cwA : CP (upd H6 D (.lst ((r :: rs.eraseIdx jn).map V.ref))) ([.str tj.w, .str tj.n, y] :: cs.eraseIdx jn) (tj :: ws.eraseIdx jn) := (cw1.sk (Went.sk W1.1 cpA.w)).ahead hcj htj
        have hqf := Went.sk W1.1 (cpA).w _ _ _ hq1
        walk_at "go3"
        rename_i B nB
        exact k _ _ _ ⟨B, D, _, rfl, upd_same, by rw [upd_ne (ne_of_none (cpA).hD nB)]; exact (cpA).hD, ((cpA).parts cwA).ext fun x t r => r.sk (Same.sk (same_new same_rfl nB))⟩ (row_ahead hd htj (by rw [List.length_map] at hlt; omega)) (W1.trans ((cpA).w.new nB))
      · have cw6' := cw1.sk (Went.sk W1.1 cp6.w)
        have hdU : TrmD 8 (.row ws) := ⟨hd.1, fun u hu => (hd.2.1 u hu).up (by decide), hd.2.2⟩
        have hqf := Went.sk W1.1 (cp6).w _ _ _ hq1
        walk_at "go3"
        rename_i B nB
        exact k _ _ _ ⟨B, D, _, rfl, upd_same, by rw [upd_ne (ne_of_none (cp6).hD nB)]; exact (cp6).hD, ((cp6).parts cw6').ext fun x t r => r.sk (Same.sk (same_new same_rfl nB))⟩ hdU (W1.trans ((cp6).w.new nB))
end
end Me
set_option maxHeartbeats 8000000
namespace Me
open PySem L2


end Me
local macro_rules | `(tactic| walk_at "go3") => `(tactic| repeat (first | walk_at "go1" | (with_reducible refine And.intro (a := L2.V.non = L2.V.non) rfl ?_) | ((with_reducible refine' Me.i_yes ?_ ?_); (first | rfl | exact decide_eq_true rfl)) | ((with_reducible refine' Me.i_no ?_ ?_); (first | rfl | exact decide_eq_false (fun z => absurd (L2.V.str.inj z) (by decide)) | (simp; done))) | with_reducible refine Me.i_make ?_))
namespace Me
open PySem L2
theorem TrmD.up {k m : Int} {t : Trm} (h : TrmD k t) (l : k ≤ m) : TrmD m t := by
  cases t with
  | smp s => exact SmpD.up (s := s) h l
  | choice ws => exact ⟨h.1, fun t ht => (h.2.1 t ht).up l, h.2.2⟩
  | row ws => exact ⟨h.1, fun t ht => (h.2.1 t ht).up l, h.2.2⟩
section
variable {P : Program} {w : World} {K : PySem.W.Frag} {mg : Str → Option Value} {base : Heap} {a : Ad}
def spCh0 : Sp := fun vs H Q _ => ∃ (p : Addr) (x : V) (s : Smp), vs = [.ref p, x] ∧ StOk H p ∧ SmpT H x s ∧ SmpD 7 s ∧ ∀ v H' g, SmpT H' v g → SmpD 8 g → Went p H H' → Q v H'
theorem ok_ch0 (T : Txt K mg a) : FnOk P w K mg base CX0 7 a._law_changed.f a._law_changed.fd ["_law_state", "_law_term"] spCh0 := by
  have G__law_pull : FnOk P w K mg base CX0 1 a._law_pull.f a._law_pull.fd ["_law_state", "_law_many"] spPull := ok_pull T
  have G__law_name : FnOk P w K mg base CX0 2 a._law_name.f a._law_name.fd ["_law_state", "_law_taken"] spName := ok_name T
  have G__law_changed_simple : FnOk P w K mg base CX0 4 a._law_changed_simple.f a._law_changed_simple.fd ["_law_state", "_law_term"] spChS := ok_chS T
  have G__law_changed_inner : FnOk P w K mg base CX0 6 a._law_changed_inner.f a._law_changed_inner.fd ["_law_state", "_law_term"] spChN := ok_chN T
  have sc : FnScope ["_law_state", "_law_term", "_law_rows", "_law_row", "_law_at", "_law_turn", "_law_last", "_law_taken"] ["_law_state", "_law_term"] (defScope (top 47)) := ⟨rfl, rfl, rfl, by decide +kernel, rfl, by decide +kernel, by decide +kernel⟩
  refine T._law_changed.ok sc (fun vs H Q E h => ?_) (fun cdv A outer s H vs Q E hr h => ?_)
  · obtain ⟨p, x, s, rfl, _⟩ := h
    rfl
  · obtain ⟨p, x, s, rfl, S, hx, hd, k⟩ := h
    refine ⟨_, (pss_cons (ps_if (pt_cmpR op_notIn_seq (pe_ix ix_list (pv 1) pe_int (fun _ _ => rfl)) (pe_lst (pa_cons pe_str (pa_cons pe_str pa_nil))) (by rfl))
      (pss_one (ps_ret (pe_call G__law_changed_simple (hr.mono (by first | decide | omega)) rfl T._law_changed_simple.mg T._law_changed_simple.kp T._law_changed_simple.b .nil pass0 (pa_cons (pv 0) (pa_cons (pv 1) pa_nil)))))
      pss_nil)
      (pss_cons (ps_setLc (te := tCB (fun xs H Q => ∃ p ys, xs = [V.ref p] ∧ (SqL K H p ys ∨ SqT K H p ys) ∧ ∀ l, H l = none → Q (V.ref l) (upd H l (.lst ys))) (tCons (tVar 3) tNil)) (i := 2) (own := [("_law_row", 3)]) (g := gName 3) (by rfl) sc.nd rfl rfl (sw_true rfl rfl rfl (by decide +kernel)) (pi_list (pe_ix ix_list (pv 1) pe_int (fun _ _ => rfl))) (blkOk_by (own := [("_law_row", 3)]) (N := ["_law_state", "_law_term", "_law_rows", "_law_row", "_law_at", "_law_turn", "_law_last", "_law_taken"]) (sc := defScope (top 47)) (by decide +kernel)) (fun _ _ _ _ _ => pg_name (i := 3) sc.nd rfl (Or.inl rfl)) (fun _ _ _ _ _ => pts_nil) (fun _ _ _ _ _ => (by exact (pe_callTy call_list_of (by rfl) T.list (by decide +kernel) (pa_cons (pv 3) pa_nil)))))
      (pss_cons (ps_set (i := 4) sc.nd rfl (by first | exact Or.inl rfl | exact Or.inr rfl) (pe_call G__law_pull (hr.mono (by first | decide | omega)) rfl T._law_pull.mg T._law_pull.kp T._law_pull.b .nil pass0 (pa_cons (pv 0) (pa_cons (pe_callB call_len_seq (by rfl) T.len PySem.boot_len (pa_cons (pv 2) pa_nil)) pa_nil))))
      (pss_cons (ps_set (i := 5) sc.nd rfl (by first | exact Or.inl rfl | exact Or.inr rfl) (pe_call G__law_pull (hr.mono (by first | decide | omega)) rfl T._law_pull.mg T._law_pull.kp T._law_pull.b .nil pass0 (pa_cons (pv 0) (pa_cons pe_int pa_nil))))
      (pss_cons (ps_set (i := 6) sc.nd rfl (by first | exact Or.inl rfl | exact Or.inr rfl) (pe_op op_sub (pe_callB call_len_seq (by rfl) T.len PySem.boot_len (pa_cons (pe_ix ix_list (pv 2) (pv 4) (fun _ _ => rfl)) pa_nil)) pe_int))
      (pss_cons (ps_setLc (te := tOp (rIxL K) (tVar 3) (tC (.int 1))) (i := 7) (own := [("_law_row", 3)]) (g := gName 3) (by rfl) sc.nd rfl rfl (sw_true rfl rfl rfl (by decide +kernel)) (pi_list (pv 2)) (blkOk_by (own := [("_law_row", 3)]) (N := ["_law_state", "_law_term", "_law_rows", "_law_row", "_law_at", "_law_turn", "_law_last", "_law_taken"]) (sc := defScope (top 47)) (by decide +kernel)) (fun _ _ _ _ _ => pg_name (i := 3) sc.nd rfl (Or.inl rfl)) (fun _ _ _ _ _ => pts_nil) (fun _ _ _ _ _ => (by exact (pe_ix ix_list (pv 3) pe_int (fun _ _ => rfl)))))
      (pss_cons (ps_if (pt_cmpR op_eq (pv 5) pe_int (nomark _))
      (pss_one (ps_asg (pe_call G__law_name (hr.mono (by first | decide | omega)) rfl T._law_name.mg T._law_name.kp T._law_name.b .nil pass0 (pa_cons (pv 0) (pa_cons (pv 7) pa_nil))) (pg_sub (pe_ix ix_list (pv 2) (pv 4) (fun _ _ => rfl)) pe_int set_list)))
      (pss_one (ps_if (pt_cmpR op_eq (pv 5) pe_int (nomark _))
      (pss_one (ps_asg (pe_call G__law_changed_inner (hr.mono (by first | decide | omega)) rfl T._law_changed_inner.mg T._law_changed_inner.kp T._law_changed_inner.b .nil pass0 (pa_cons (pv 0) (pa_cons (pe_ix ix_list (pe_ix ix_list (pv 2) (pv 4) (fun _ _ => rfl)) (pv 6) (fun _ _ => rfl)) pa_nil))) (pg_sub (pe_ix ix_list (pv 2) (pv 4) (fun _ _ => rfl)) (pv 6) set_list)))
      (pss_one (ps_if (PW.pt (pw_and (pt_cmpR op_eq (pv 5) pe_int (nomark _)) (pw_and (pt_cmpR op_ne (pe_ix ix_list (pe_ix ix_list (pv 2) (pv 4) (fun _ _ => rfl)) pe_int (fun _ _ => rfl)) pe_str (nomark _)) (pw_and1 (pt_cmpR op_lt (pe_callB call_len_str (by rfl) T.len PySem.boot_len (pa_cons (pe_ix ix_list (pe_ix ix_list (pv 2) (pv 4) (fun _ _ => rfl)) pe_int (fun _ _ => rfl)) pa_nil)) pe_int (nomark _))))))
      (pss_one (ps_asg (pe_op op_add_str (pe_ix ix_list (pe_ix ix_list (pv 2) (pv 4) (fun _ _ => rfl)) pe_int (fun _ _ => rfl)) (pe_ix ix_str pe_str (pe_call G__law_pull (hr.mono (by first | decide | omega)) rfl T._law_pull.mg T._law_pull.kp T._law_pull.b .nil pass0 (pa_cons (pv 0) (pa_cons pe_int pa_nil))) (fun _ _ => rfl))) (pg_sub (pe_ix ix_list (pv 2) (pv 4) (fun _ _ => rfl)) pe_int set_list)))
      (pss_one (ps_if (PW.pt (pw_and (pt_cmpR op_eq (pv 5) pe_int (nomark _)) (pw_and (pt_cmpR op_eq (pe_ix ix_list (pv 1) pe_int (fun _ _ => rfl)) pe_str (nomark _)) (pw_and (pt_cmpR op_notN (pe_ix ix_list (pe_ix ix_list (pv 2) (pv 4) (fun _ _ => rfl)) pe_int (fun _ _ => rfl)) pe_non (nomark _)) (pw_and1 (pt_cmpR op_gt (pv 4) pe_int (nomark _)))))))
      (pss_one (ps_asg (pe_not (pe_ix ix_list (pe_ix ix_list (pv 2) (pv 4) (fun _ _ => rfl)) pe_int (fun _ _ => rfl))) (pg_sub (pe_ix ix_list (pv 2) (pv 4) (fun _ _ => rfl)) pe_int set_list)))
      (pss_one (ps_if (PW.pt (pw_and (pt_cmpR op_eq (pv 5) pe_int (nomark _)) (pw_and (pt_cmpR op_eq (pe_ix ix_list (pv 1) pe_int (fun _ _ => rfl)) pe_str (nomark _)) (pw_and (pt_cmpR op_lt (pv 4) (pe_op op_sub (pe_callB call_len_seq (by rfl) T.len PySem.boot_len (pa_cons (pv 2) pa_nil)) pe_int) (nomark _)) (pw_and1 (pt_cmpR op_notN (pe_ix ix_list (pe_ix ix_list (pv 2) (pv 4) (fun _ _ => rfl)) pe_int (fun _ _ => rfl)) pe_non (nomark _)))))))
      (pss_one (ps_asg (pe_ix ix_list (pe_lst (pa_cons pe_str (pa_cons pe_str pa_nil))) (pe_callTy call_int1 (by rfl) T.int (by decide +kernel) (pa_cons (pe_cmpR op_eq (pe_ix ix_list (pe_ix ix_list (pv 2) (pv 4) (fun _ _ => rfl)) pe_int (fun _ _ => rfl)) pe_str (nomark _)) pa_nil)) (fun _ _ => rfl)) (pg_sub (pe_ix ix_list (pv 2) (pv 4) (fun _ _ => rfl)) pe_int set_list)))
      (pss_one (ps_if (pt_cmpR op_lt (pv 4) (pe_op op_sub (pe_callB call_len_seq (by rfl) T.len PySem.boot_len (pa_cons (pv 2) pa_nil)) pe_int) (nomark _))
      (pss_one (ps_expr (pe_bm PySem.F.plainAttrs_list PySem.F.slot_list_insert PySem.F.type_list_insert mt_insert (pv 2) (pa_cons pe_int (pa_cons (pe_bm PySem.F.plainAttrs_list PySem.F.slot_list_pop PySem.F.type_list_pop mt_popAt (pv 2) (pa_cons (pv 4) pa_nil)) pa_nil)))))
      pss_nil)))))))))))
      (pss_one (ps_ret (pe_lst (pa_cons (pe_ix ix_list (pv 1) pe_int (fun _ _ => rfl)) (pa_cons (pv 2) pa_nil)))))))))))), ?_⟩
    have key : ∃ q z xs, x = .ref q ∧ H q = some (.lst (.str z :: xs)) ∧ decide (z ∈ (["choice", "row"] : List Str)) = false := by
      cases s with
      | flat f =>
        cases f <;> (obtain ⟨q, rfl, hq⟩ := hx; exact ⟨q, _, _, rfl, hq, by decide⟩)
      | items f wv =>
        obtain ⟨q, y, rfl, hq, _⟩ := hx
        exact ⟨q, _, _, rfl, hq, by decide⟩
    obtain ⟨q, z, xs, rfl, hq, hz⟩ := key
    walk_at "go3"
    refine i_ixl hq (atI_nat (j := 0) rfl) ?_
    walk_at "go3"
    rename_i N nN
    refine i_inS (neg := true) (ts := ["choice", "row"]) upd_same ⟨_, rfl, i_yes (by rw [if_pos rfl, hz]; rfl) ?_⟩
    have s1 := same_new (o := .lst [.str "choice", .str "row"]) same_rfl nN
    have W1 : Went p H (upd H N (.lst [.str "choice", .str "row"])) := (Went.rfl' S).new nN
    walk_at "go3"
    exact ⟨p, .ref q, s, rfl, W1.1, SmpT.sk (f := s) hx (Same.sk s1), hd, fun v H' g h1 h2 W => k v H' g h1 h2 (W1.trans W)⟩
def spChanged : Sp := fun vs H Q _ => ∃ (p : Addr) (x : V) (t : Trm), vs = [.ref p, x] ∧ StOk H p ∧ TrmT H x t ∧ TrmD 7 t ∧ t.fst ∧ ∀ v H' u, TrmT H' v u → TrmD 8 u → u.sort = t.sort → Went p H H' → Q v H'
theorem ok_changed (T : Txt K mg a) : FnOk P w K mg base CX0 7 a._law_changed.f a._law_changed.fd ["_law_state", "_law_term"] spChanged := fn_imp (fn_or (ok_ch0 T) (fn_or (ok_chC T) (ok_chR T))) fun vs H Q E ⟨p, x, t, hv, S, hx, hd, hf, k⟩ => by
  match t, hx, hd, hf, k with
  | .smp s, hx, hd, _, k => exact .inl ⟨p, x, s, hv, S, hx, hd, fun v H' g h1 h2 W => k v H' (.smp g) h1 h2 rfl W⟩
  | .choice ws, hx, hd, hf, k => exact .inr (.inl ⟨p, x, ws, hv, S, hx, hd, hf, fun v H' g h1 h2 W => k v H' (.choice g) h1 h2 rfl W⟩)
  | .row ws, hx, hd, hf, k => exact .inr (.inr ⟨p, x, ws, hv, S, hx, hd, fun v H' g h1 h2 W => k v H' (.row g) h1 h2 rfl W⟩)
def spLaw (K : PySem.W.Frag) : Sp := fun vs H Q _ => ∃ (s : Addr) (ns : List Int), vs = [.ref s] ∧ SqL K H s (ns.map V.int) ∧ ns.length ≤ 63 ∧ ∀ H', Q (.bl true) H'
theorem ok_law (T : Txt K mg a) : FnOk P w K mg base CX0 10 a.law.f a.law.fd ["_law_script"] (spLaw K) := by
  have G__law_start : FnOk P w K mg base CX0 1 a._law_start.f a._law_start.fd ["_law_script"] (spStart K) := ok_start T
  have G__law_pull : FnOk P w K mg base CX0 1 a._law_pull.f a._law_pull.fd ["_law_state", "_law_many"] spPull := ok_pull T
  have G__law_any : FnOk P w K mg base CX0 7 a._law_any.f a._law_any.fd ["_law_state", "_law_turn"] spAny := ok_any T
  have G__law_changed : FnOk P w K mg base CX0 7 a._law_changed.f a._law_changed.fd ["_law_state", "_law_term"] spChanged := ok_changed T
  have G__law_same : FnOk P w K mg base CX0 7 a._law_same.f a._law_same.fd ["_law_told", "_law_due"] (spSame 5) := ok_same T 5
  have G__law_kind : FnOk P w K mg base CX0 9 a._law_kind.f a._law_kind.fd ["_law_term"] (spKind a) := ok_kind T
  have sc : FnScope ["_law_script", "_law_state", "_law_k", "_law_turn", "_law_one", "_law_other", "_law_how", "_law_due", "_law_first", "_law_second"] ["_law_script"] (defScope (top 48)) := ⟨rfl, rfl, rfl, by decide +kernel, rfl, by decide +kernel, by decide +kernel⟩
  refine T.law.ok sc (fun vs H Q E h => ?_) (fun cdv A outer s H vs Q E hr h => ?_)
  · obtain ⟨p, _, rfl, _⟩ := h
    rfl
  · obtain ⟨sa, ns, rfl, hS, hn, k⟩ := h
    refine ⟨_, (pss_cons (ps_set (i := 1) sc.nd rfl (by first | exact Or.inl rfl | exact Or.inr rfl) (pe_call G__law_start (hr.mono (by first | decide | omega)) rfl T._law_start.mg T._law_start.kp T._law_start.b .nil pass0 (pa_cons (pv 0) pa_nil)))
      (pss_cons (ps_for PassesOwn.never rfl (pi_range1 rfl T.range (pa_cons pe_int pa_nil)) (pg_name (i := 2) sc.nd rfl (by first | exact Or.inl rfl | exact Or.inr rfl))
      (pss_cons (ps_set (i := 3) sc.nd rfl (by first | exact Or.inl rfl | exact Or.inr rfl) (pe_call G__law_pull (hr.mono (by first | decide | omega)) rfl T._law_pull.mg T._law_pull.kp T._law_pull.b .nil pass0 (pa_cons (pv 1) (pa_cons pe_int pa_nil))))
      (pss_cons (ps_set (i := 4) sc.nd rfl (by first | exact Or.inl rfl | exact Or.inr rfl) (pe_call G__law_any (hr.mono (by first | decide | omega)) rfl T._law_any.mg T._law_any.kp T._law_any.b .nil pass0 (pa_cons (pv 1) (pa_cons (pv 3) pa_nil))))
      (pss_cons (ps_set (i := 5) sc.nd rfl (by first | exact Or.inl rfl | exact Or.inr rfl) (pv 4))
      (pss_cons (ps_set (i := 6) sc.nd rfl (by first | exact Or.inl rfl | exact Or.inr rfl) (pe_call G__law_pull (hr.mono (by first | decide | omega)) rfl T._law_pull.mg T._law_pull.kp T._law_pull.b .nil pass0 (pa_cons (pv 1) (pa_cons pe_int pa_nil))))
      (pss_cons (ps_if (pt_cmpR op_eq (pv 6) pe_int (nomark _))
      (pss_one (ps_set (i := 5) sc.nd rfl (by first | exact Or.inl rfl | exact Or.inr rfl) (pe_call G__law_any (hr.mono (by first | decide | omega)) rfl T._law_any.mg T._law_any.kp T._law_any.b .nil pass0 (pa_cons (pv 1) (pa_cons (pv 3) pa_nil)))))
      (pss_one (ps_if (pt_cmpR op_gt (pv 6) pe_int (nomark _))
      (pss_one (ps_set (i := 5) sc.nd rfl (by first | exact Or.inl rfl | exact Or.inr rfl) (pe_call G__law_changed (hr.mono (by first | decide | omega)) rfl T._law_changed.mg T._law_changed.kp T._law_changed.b .nil pass0 (pa_cons (pv 1) (pa_cons (pv 4) pa_nil)))))
      pss_nil)))
      (pss_cons (ps_set (i := 7) sc.nd rfl (by first | exact Or.inl rfl | exact Or.inr rfl) (pe_call G__law_same (hr.mono (by first | decide | omega)) rfl T._law_same.mg T._law_same.kp T._law_same.b .nil pass0 (pa_cons (pv 4) (pa_cons (pv 5) pa_nil))))
      (pss_cons (ps_set (i := 8) sc.nd rfl (by first | exact Or.inl rfl | exact Or.inr rfl) (pe_call G__law_kind (hr.mono (by first | decide | omega)) rfl T._law_kind.mg T._law_kind.kp T._law_kind.b .nil pass0 (pa_cons (pv 4) pa_nil)))
      (pss_cons (ps_set (i := 9) sc.nd rfl (by first | exact Or.inl rfl | exact Or.inr rfl) (pe_call G__law_kind (hr.mono (by first | decide | omega)) rfl T._law_kind.mg T._law_kind.kp T._law_kind.b .nil pass0 (pa_cons (pv 5) pa_nil)))
      (pss_cons (ps_if (pt_not (pt_val (pe_call G__law_same (hr.mono (by first | decide | omega)) rfl T._law_same.mg T._law_same.kp T._law_same.b .nil pass0 (pa_cons (pe_lst (pa_cons (pe_cmpR (op_eqB (rcB_trm T) (hr.mono (by decide))) (pv 8) (pv 9) (nomark _)) (pa_cons (pe_cmpR (op_eqB (rcB_trm T) (hr.mono (by decide))) (pv 9) (pv 8) (nomark _)) pa_nil))) (pa_cons (pe_lst (pa_cons (pv 7) (pa_cons (pv 7) pa_nil))) pa_nil)))))
      (pss_one (ps_ret pe_bl))
      pss_nil)
      (pss_one (ps_if (pt_not (pt_cmpR (op_eqB (rcB_trm T) (hr.mono (by decide))) (pv 8) (pe_call G__law_kind (hr.mono (by first | decide | omega)) rfl T._law_kind.mg T._law_kind.kp T._law_kind.b .nil pass0 (pa_cons (pv 4) pa_nil)) (nomark _)))
      (pss_one (ps_ret pe_bl))
      pss_nil))))))))))))
      (pss_one (ps_ret (pe_cmpR (op_eqB (rcB_inn T) (hr.mono (by decide))) (pe_mk0 (T.kc 0 (by decide)).mks T.ini0 (T.kc 0 (by decide)).kp (T.kc 0 (by decide)).gl) (pe_mk0 (T.kc 0 (by decide)).mks T.ini0 (T.kc 0 (by decide)).kp (T.kc 0 (by decide)).gl) (nomark _)))))), ?_⟩
    walk_at "go"
    refine ⟨sa, ns, rfl, hS, hn, fun p H1 np S1 _ => ?_⟩
    walk_at "go"
    refine ⟨4, rfl, by decide, by decide, for_range (n := 4) (fun i σ H' => ∃ v2 v3 v4 v5 v6 v7 v8 v9, σ = [some (.ref sa), some (.ref p), v2, v3, v4, v5, v6, v7, v8, v9] ∧ StOk H' p) ⟨_, _, _, _, _, _, _, _, rfl, S1⟩ ?_ ?_⟩
    · rintro i σ H2 hi ⟨v2, v3, v4, v5, v6, v7, v8, v9, rfl, S2⟩
      walk_at "go"
      refine ⟨p, _, rfl, S2, by decide, by decide, fun r3 H3 a0 a1 W3 => ?_⟩
      walk_at "go"
      refine ⟨p, r3, rfl, W3.1, a0, by omega, fun x H4 t hx hd hf hsort W4 => ?_⟩
      walk_at "go"
      refine ⟨p, _, rfl, W4.1, by decide, by decide, fun r5 H5 b0 b1 W5 => ?_⟩
      have hx5 := hx.went W4.1 W5
      walk_at "go"
      refine i_itd (fun h0 => ?_) (fun h0 => ?_)
      · walk_at "go"
        refine ⟨p, r3, rfl, W5.1, a0, by omega, fun x2 H6 t2 hx2 hd2' _ hs2 W6 => ?_⟩
        have hx6 := hx5.went W5.1 W6
        have hd8 := hd.up (show (7 : Int) ≤ 8 by decide)
        have hd2 := hd2'.up (show (7 : Int) ≤ 8 by decide)
        have hs : t.sort = t2.sort := hsort.trans hs2.symm
        have S6 := W6.1
        walk_at "go"
        refine ⟨x, x2, t.nd, t2.nd, rfl, hx6.nst (TrmV.small (hd8.v (by decide))), hx2.nst (TrmV.small (hd2.v (by decide))), fun due hdue => ?_⟩
        walk_at "go"
        refine ⟨x, t, rfl, hx6, hd8.v (by decide), fun y1 H7 s7 ho1 => ?_⟩
        walk_at "go"
        refine ⟨x2, t2, rfl, hx2.same s7, hd2.v (by decide), fun y2 H8 s8 ho2 => ?_⟩
        walk_at "go"
        have ho18 := ho1.ext s8
        refine ⟨(t = t2), ⟨t, t2, hs, ho18, ho2, Iff.rfl⟩, fun b1 H9 hb1 e9 => ?_⟩
        walk_at "go"
        refine ⟨(t2 = t), ⟨t2, t, hs.symm, ho2.ext e9, ho18.ext e9, Iff.rfl⟩, fun b2 H10 hb2 e10 => ?_⟩
        walk_at "go"
        rename_i A nA B nB
        have hnd : (due = true) ↔ t = t2 := hdue.trans Trm.nd_iff
        have eb1 : b1 = due := by
          cases b1 <;> cases due
          · rfl
          · cases hb1.mpr (hnd.mp rfl)
          · cases hnd.mpr (hb1.mp rfl)
          · rfl
        have eb2 : b2 = due := by
          cases b2 <;> cases due
          · rfl
          · cases hb2.mpr (hnd.mp rfl).symm
          · cases hnd.mpr (hb2.mp rfl).symm
          · rfl
        subst eb1
        subst eb2
        have sA : Same H10 (upd H10 A (.lst [.bl b2, .bl b2])) := same_new same_rfl nA
        have sB : Same H10 (upd (upd H10 A (.lst [.bl b2, .bl b2])) B (.lst [.bl b2, .bl b2])) := same_new sA nB
        have hA : upd (upd H10 A (.lst [.bl b2, .bl b2])) B (.lst [.bl b2, .bl b2]) A = some (.lst [.bl b2, .bl b2]) := by rw [upd_ne (ne_of_none upd_same nB)]; exact upd_same
        refine ⟨.ref A, .ref B, .lst [.at (.bl b2), .at (.bl b2)], .lst [.at (.bl b2), .at (.bl b2)], rfl, nst_lst hA (.cons (nst_at rfl) (.cons (nst_at rfl) .nil)) (by simp), nst_lst upd_same (.cons (nst_at rfl) (.cons (nst_at rfl) .nil)) (by simp), fun b hb => ⟨b, rfl, ?_⟩⟩
        have bt : b = true := hb.mpr rfl
        subst bt
        have s611 : Same H6 (upd (upd H10 A (.lst [.bl b2, .bl b2])) B (.lst [.bl b2, .bl b2])) := fun b o h => sB b o (e10 b o (e9 b o (s8 b o (s7 b o h))))
        have s811 : Same H8 (upd (upd H10 A (.lst [.bl b2, .bl b2])) B (.lst [.bl b2, .bl b2])) := fun b o h => sB b o (e10 b o (e9 b o h))
        generalize upd (upd H10 A (.lst [.bl b2, .bl b2])) B (.lst [.bl b2, .bl b2]) = H11 at s611 s811 ⊢
        refine i_no rfl ?_
        walk_at "go"
        refine ⟨x, t, rfl, hx6.same s611, hd8.v (by decide), fun y3 H12 s12 ho3 => ?_⟩
        walk_at "go"
        refine ⟨(t = t), ⟨t, t, rfl, (ho18.ext s811).ext s12, ho3, Iff.rfl⟩, fun b3 H13 hb3 e13 => ⟨b3, rfl, ?_⟩⟩
        have bt3 : b3 = true := hb3.mpr rfl
        subst bt3
        refine i_no rfl ?_
        exact ⟨_, _, _, _, _, _, _, _, rfl, S6.keep (fun b o h => e13 b o (s12 b o (s611 b o h)))⟩
      · walk_at "go"
        refine i_itd (fun h1 => ?_) (fun h1 => ?_)
        · walk_at "go"
          refine ⟨p, x, t, rfl, W5.1, hx5, hd, hf, fun x2 H6 t2 hx2 hd2 hs2 W6 => ?_⟩
          have hx6 := hx5.went W5.1 W6
          have hd8 := hd.up (show (7 : Int) ≤ 8 by decide)
          have hs : t.sort = t2.sort := hs2.symm
          have S6 := W6.1
          walk_at "go"
          refine ⟨x, x2, t.nd, t2.nd, rfl, hx6.nst (TrmV.small (hd8.v (by decide))), hx2.nst (TrmV.small (hd2.v (by decide))), fun due hdue => ?_⟩
          walk_at "go"
          refine ⟨x, t, rfl, hx6, hd8.v (by decide), fun y1 H7 s7 ho1 => ?_⟩
          walk_at "go"
          refine ⟨x2, t2, rfl, hx2.same s7, hd2.v (by decide), fun y2 H8 s8 ho2 => ?_⟩
          walk_at "go"
          have ho18 := ho1.ext s8
          refine ⟨(t = t2), ⟨t, t2, hs, ho18, ho2, Iff.rfl⟩, fun b1 H9 hb1 e9 => ?_⟩
          walk_at "go"
          refine ⟨(t2 = t), ⟨t2, t, hs.symm, ho2.ext e9, ho18.ext e9, Iff.rfl⟩, fun b2 H10 hb2 e10 => ?_⟩
          walk_at "go"
          rename_i A nA B nB
          have hnd : (due = true) ↔ t = t2 := hdue.trans Trm.nd_iff
          have eb1 : b1 = due := by
            cases b1 <;> cases due
            · rfl
            · cases hb1.mpr (hnd.mp rfl)
            · cases hnd.mpr (hb1.mp rfl)
            · rfl
          have eb2 : b2 = due := by
            cases b2 <;> cases due
            · rfl
            · cases hb2.mpr (hnd.mp rfl).symm
            · cases hnd.mpr (hb2.mp rfl).symm
            · rfl
          subst eb1
          subst eb2
          have sA : Same H10 (upd H10 A (.lst [.bl b2, .bl b2])) := same_new same_rfl nA
          have sB : Same H10 (upd (upd H10 A (.lst [.bl b2, .bl b2])) B (.lst [.bl b2, .bl b2])) := same_new sA nB
          have hA : upd (upd H10 A (.lst [.bl b2, .bl b2])) B (.lst [.bl b2, .bl b2]) A = some (.lst [.bl b2, .bl b2]) := by rw [upd_ne (ne_of_none upd_same nB)]; exact upd_same
          refine ⟨.ref A, .ref B, .lst [.at (.bl b2), .at (.bl b2)], .lst [.at (.bl b2), .at (.bl b2)], rfl, nst_lst hA (.cons (nst_at rfl) (.cons (nst_at rfl) .nil)) (by simp), nst_lst upd_same (.cons (nst_at rfl) (.cons (nst_at rfl) .nil)) (by simp), fun b hb => ⟨b, rfl, ?_⟩⟩
          have bt : b = true := hb.mpr rfl
          subst bt
          have s611 : Same H6 (upd (upd H10 A (.lst [.bl b2, .bl b2])) B (.lst [.bl b2, .bl b2])) := fun b o h => sB b o (e10 b o (e9 b o (s8 b o (s7 b o h))))
          have s811 : Same H8 (upd (upd H10 A (.lst [.bl b2, .bl b2])) B (.lst [.bl b2, .bl b2])) := fun b o h => sB b o (e10 b o (e9 b o h))
          generalize upd (upd H10 A (.lst [.bl b2, .bl b2])) B (.lst [.bl b2, .bl b2]) = H11 at s611 s811 ⊢
          refine i_no rfl ?_
          walk_at "go"
          refine ⟨x, t, rfl, hx6.same s611, hd8.v (by decide), fun y3 H12 s12 ho3 => ?_⟩
          walk_at "go"
          refine ⟨(t = t), ⟨t, t, rfl, (ho18.ext s811).ext s12, ho3, Iff.rfl⟩, fun b3 H13 hb3 e13 => ⟨b3, rfl, ?_⟩⟩
          have bt3 : b3 = true := hb3.mpr rfl
          subst bt3
          refine i_no rfl ?_
          exact ⟨_, _, _, _, _, _, _, _, rfl, S6.keep (fun b o h => e13 b o (s12 b o (s611 b o h)))⟩
        · obtain ⟨x2, hx2e⟩ : ∃ x2, x2 = x := ⟨_, rfl⟩
          obtain ⟨t2, ht2e⟩ : ∃ t2, t2 = t := ⟨_, rfl⟩
          obtain ⟨H6, hH6⟩ : ∃ H6, H6 = H5 := ⟨_, rfl⟩
          have hx6 : TrmT H6 x t := by rw [hH6]; exact hx5
          have hx2 : TrmT H6 x2 t2 := by rw [hH6, hx2e, ht2e]; exact hx5
          have hd8 := hd.up (show (7 : Int) ≤ 8 by decide)
          have hd2 : TrmD 8 t2 := by rw [ht2e]; exact hd8
          have hs : t.sort = t2.sort := by rw [ht2e]
          have S6 : StOk H6 p := by rw [hH6]; exact W5.1
          subst hH6
          subst ht2e
          subst hx2e
          walk_at "go"
          refine ⟨_, _, _, _, rfl, hx6.nst (TrmV.small (hd8.v (by decide))), hx2.nst (TrmV.small (hd2.v (by decide))), fun due hdue => ?_⟩
          walk_at "go"
          refine ⟨_, _, rfl, hx6, hd8.v (by decide), fun y1 H7 s7 ho1 => ?_⟩
          walk_at "go"
          refine ⟨_, _, rfl, hx2.same s7, hd2.v (by decide), fun y2 H8 s8 ho2 => ?_⟩
          walk_at "go"
          have ho18 := ho1.ext s8
          refine ⟨(t2 = t2), ⟨t2, t2, hs, ho18, ho2, Iff.rfl⟩, fun b1 H9 hb1 e9 => ?_⟩
          walk_at "go"
          refine ⟨(t2 = t2), ⟨t2, t2, hs.symm, ho2.ext e9, ho18.ext e9, Iff.rfl⟩, fun b2 H10 hb2 e10 => ?_⟩
          walk_at "go"
          rename_i A nA B nB
          have hnd : (due = true) ↔ t2 = t2 := hdue.trans Trm.nd_iff
          have eb1 : b1 = due := by
            cases b1 <;> cases due
            · rfl
            · cases hb1.mpr (hnd.mp rfl)
            · cases hnd.mpr (hb1.mp rfl)
            · rfl
          have eb2 : b2 = due := by
            cases b2 <;> cases due
            · rfl
            · cases hb2.mpr (hnd.mp rfl).symm
            · cases hnd.mpr (hb2.mp rfl).symm
            · rfl
          subst eb1
          subst eb2
          have sA : Same H10 (upd H10 A (.lst [.bl b2, .bl b2])) := same_new same_rfl nA
          have sB : Same H10 (upd (upd H10 A (.lst [.bl b2, .bl b2])) B (.lst [.bl b2, .bl b2])) := same_new sA nB
          have hA : upd (upd H10 A (.lst [.bl b2, .bl b2])) B (.lst [.bl b2, .bl b2]) A = some (.lst [.bl b2, .bl b2]) := by rw [upd_ne (ne_of_none upd_same nB)]; exact upd_same
          refine ⟨.ref A, .ref B, .lst [.at (.bl b2), .at (.bl b2)], .lst [.at (.bl b2), .at (.bl b2)], rfl, nst_lst hA (.cons (nst_at rfl) (.cons (nst_at rfl) .nil)) (by simp), nst_lst upd_same (.cons (nst_at rfl) (.cons (nst_at rfl) .nil)) (by simp), fun b hb => ⟨b, rfl, ?_⟩⟩
          have bt : b = true := hb.mpr rfl
          subst bt
          have s611 : Same H6 (upd (upd H10 A (.lst [.bl b2, .bl b2])) B (.lst [.bl b2, .bl b2])) := fun b o h => sB b o (e10 b o (e9 b o (s8 b o (s7 b o h))))
          have s811 : Same H8 (upd (upd H10 A (.lst [.bl b2, .bl b2])) B (.lst [.bl b2, .bl b2])) := fun b o h => sB b o (e10 b o (e9 b o h))
          generalize upd (upd H10 A (.lst [.bl b2, .bl b2])) B (.lst [.bl b2, .bl b2]) = H11 at s611 s811 ⊢
          refine i_no rfl ?_
          walk_at "go"
          refine ⟨_, _, rfl, hx6.same s611, hd8.v (by decide), fun y3 H12 s12 ho3 => ?_⟩
          walk_at "go"
          refine ⟨(t2 = t2), ⟨t2, t2, rfl, (ho18.ext s811).ext s12, ho3, Iff.rfl⟩, fun b3 H13 hb3 e13 => ⟨b3, rfl, ?_⟩⟩
          have bt3 : b3 = true := hb3.mpr rfl
          subst bt3
          refine i_no rfl ?_
          exact ⟨_, _, _, _, _, _, _, _, rfl, S6.keep (fun b o h => e13 b o (s12 b o (s611 b o h)))⟩
    · rintro σ H2 ⟨v2, v3, v4, v5, v6, v7, v8, v9, rfl, S2⟩
      walk_at "go"
      intro x1 dx1 nx1 ndx1 ne1
      intro y1 dy1 ny1 ndy1 ne2
      have hx1 : upd (upd H2 dx1 (.own x1)) x1 (.ins (a.C 0) dx1 []) x1 = some (.ins (a.C 0) dx1 []) := upd_same
      refine ⟨(Inn.nothing = Inn.nothing), ⟨.nothing, .nothing, ⟨x1, dx1, rfl, same2 ny1 ndy1 _ _ hx1⟩, ⟨y1, dy1, rfl, upd_same⟩, Iff.rfl⟩, fun b H' hb e => ?_⟩
      have bt : b = true := hb.mpr rfl
      subst bt
      exact k _
end
end Me
set_option maxHeartbeats 8000000
namespace Me
open PySem L2
/-! ### from the head's facts -/
theorem eqB_ok {a b : Option Bool} (h : eqB a b = true) : a = b := of_decide_eq_true h
theorem oexB_ok {K : PySem.W.Frag} {C : Addr} (h : oexB K C = true) : ∃ nm q N bs bm sn sub ab col dd k0 k1 k2 k3 k5, K.lookup C = some (excClassObj nm q C N bs bm true sn sub ab col dd k0 k1 k2 k3 k5 "ValueError.__new__") ∧ PySem.HandSPX.refsVE bm = true := by
  unfold oexB at h
  split at h
  · rename_i dd cd sl lk
    split at h
    · rename_i C' bm k0 k1 k2 k3 n k5 em es
      simp only [Bool.and_eq_true, beq_iff_eq, Bool.not_eq_true'] at h
      obtain ⟨rfl, rfl, nd, hd, ht⟩ := h
      obtain ⟨nm, bs, mro, ns, qn, hdc, sn, sub, ab, col, del⟩ := cd
      dsimp only at em nd hd
      subst em nd hd
      have esl : sl = #[k0, k1, k2, k3, some (.builtin "ValueError.__new__"), k5] := by
        obtain ⟨l⟩ := sl
        exact congrArg Array.mk es
      subst esl
      exact ⟨nm, qn, ns, bs, bm, sn, sub, ab, col, dd, k0, k1, k2, k3, k5, lk, ht⟩
    · cases h
  · cases h
theorem kcs_mem {i : Nat} (h : i < 11) : kcs.getD i ("", [], false) ∈ kcs := by
  have key : ∀ i : Nat, i < 11 → kcs.getD i ("", [], false) ∈ kcs := by decide +kernel
  exact key i h
theorem kn_inj {i j : Nat} (hi : i < 11) (hj : j < 11) : decide (kn i = kn j) = decide (i = j) := by
  have key : ∀ i : Nat, i < 11 → ∀ j : Nat, j < 11 → decide (kn i = kn j) = decide (i = j) := by decide +kernel
  exact key i hi j hj
theorem kn_ini {i : Nat} (hi : i < 11) (h0 : i ≠ 0) : (kcs.getD i ("", [], false)).2.2 = true := by
  have key : ∀ i : Nat, i < 11 → i ≠ 0 → (kcs.getD i ("", [], false)).2.2 = true := by decide +kernel
  exact key i hi h0
theorem all_and {l : List Bool} (h : l.all id = true) : ∀ b ∈ l, b = true := fun b hb => List.all_eq_true.mp h b hb
section
variable {K : PySem.W.Frag} {mg : Str → Option Value} {h : Heap}
theorem kc_ok (X : K.In h) (G : h.Ns mainGlobals mg) (c2 : exB K = true) (E : Nat → DA) (hE : ∀ i, i < 11 → (E i).f = He.ma K (He.ga K (kn i)) "__eq__") (i : Nat) (hi : i < 11) : Kc K mg (fun i => He.ga K (kn i)) E i := by
  have ex := all_and c2
  unfold exL at ex
  have x1 : kcs.all (fun y => (kcL K y.1 y.2.2).all id) = true := ex _ (by simp)
  have x5 : He.eqO (PySem.W.specialIn K (.builtin "object.__class__") "__get__") (some (some (.builtin "getset_descriptor.__get__"))) = true := ex _ (by simp)
  have x6 : eqB (PySem.W.takesIn K (.builtin "object.__class__")) (some true) = true := ex _ (by simp)
  have z := all_and (List.all_eq_true.mp x1 _ (kcs_mem hi))
  unfold kcL at z
  have z1 : He.eqO (PySem.W.nsIn K mainGlobals (kn i)) (some (some (.ref (He.ga K (kn i))))) = true := z _ (by simp [kn])
  have z2 : PySem.W.plainGet K (He.ga K (kn i)) Str.empty = true := z _ (by simp [kn])
  have z3 : PySem.W.hasDictIn K (He.ga K (kn i)) = true := z _ (by simp [kn])
  have z4 : PySem.W.plainOver K (He.ga K (kn i)) = true := z _ (by simp [kn])
  have z5 : He.eqO (PySem.W.findIn K (.ref (He.ga K (kn i))) "__setattr__") (some (some (.builtin "object.__setattr__"))) = true := z _ (by simp [kn])
  have z6 : PySem.W.makesIn K (He.ga K (kn i)) = true := z _ (by simp [kn])
  have z7 : PySem.W.keepIn K (.ref (He.ga K (kn i))) = true := z _ (by simp [kn])
  have z8 : He.eqO (PySem.W.findIn K (.ref (He.ga K (kn i))) "__class__") (some (some (.builtin "object.__class__"))) = true := z _ (by simp [kn])
  have z9 : eqB (PySem.W.mroIn K (He.ga K (kn i)) (.type "object")) (some true) = true := z _ (by simp [kn])
  have z10 : allK.all (fun f => He.eqO (PySem.W.findIn K (.ref (He.ga K (kn i))) f) (some none)) = true := z _ (by simp [kn])
  have z11 : He.eqO (PySem.W.findIn K (.ref (He.ga K (kn i))) "__eq__") (some (some (.ref (He.ma K (He.ga K (kn i)) "__eq__")))) = true := z _ (by simp [kn])
  have z12 : PySem.W.isFn K (.ref (He.ma K (He.ga K (kn i)) "__eq__")) = true := z _ (by simp [kn])
  have z14 : kcs.all (fun y => eqB (PySem.W.kitOne K (.ref (He.ga K (kn i))) (.ref (He.ga K y.1))) (some (decide (kn i = y.1)))) = true := z _ (by simp [kn])
  have z15 : tys.all (fun t => eqB (PySem.W.kitOne K (.ref (He.ga K (kn i))) (.type t)) (some false)) = true := z _ (by simp [kn])
  have z16 : tys.all (fun t => eqB (PySem.W.kitOne K (.type t) (.ref (He.ga K (kn i)))) (some false)) = true := z _ (by simp [kn])
  have z21 : kcs.all (fun y => PySem.W.notFirst K (He.ga K (kn i)) (.ref (He.ga K y.1))) = true := z _ (by simp [kn])
  have z22 : PySem.W.notFirst K (He.ga K (kn i)) (.type "NoneType") = true := z _ (by simp [kn])
  have z23 : eqB (PySem.W.subIn K (.ref (He.ga K (kn i))) (.type "NoneType")) (some false) = true := z _ (by simp [kn])
  refine { gl := PySem.W.mg_of X G (He.eqO_ok z1), cl := ⟨z2, z3, z4, He.eqO_ok z5⟩, mks := z6, kp := z7, cc := He.eqO_ok z8, cm := eqB_ok z9, no := (fun f hf => He.eqO_ok (List.all_eq_true.mp z10 f hf)), eqA := ?_, eqF := ?_, kt := (fun j hj => ?_), kT := (fun t ht => eqB_ok (List.all_eq_true.mp z15 t ht)), tK := (fun t ht => eqB_ok (List.all_eq_true.mp z16 t ht)), nf := (fun j hj => List.all_eq_true.mp z21 _ (kcs_mem hj)), nn := z22, sn := eqB_ok z23, sp := He.eqO_ok x5, tk := eqB_ok x6 }
  · rw [hE i hi]; exact He.eqO_ok z11
  · rw [hE i hi]; exact z12
  · have q := eqB_ok (List.all_eq_true.mp z14 _ (kcs_mem hj))
    have e : decide (kn i = (kcs.getD j ("", [], false)).1) = decide (i = j) := kn_inj hi hj
    rw [e] at q
    exact q
theorem mk_ok (c2 : exB K = true) (i : Nat) (hi : i < 11) (h0 : i ≠ 0) : Mk K (He.ga K (kn i)) (He.ma K (He.ga K (kn i)) "__init__") := by
  have ex := all_and c2
  unfold exL at ex
  have x1 : kcs.all (fun y => (kcL K y.1 y.2.2).all id) = true := ex _ (by simp)
  have z := all_and (List.all_eq_true.mp x1 _ (kcs_mem hi))
  unfold kcL at z
  rw [kn_ini hi h0] at z
  have z6 : PySem.W.makesIn K (He.ga K (kn i)) = true := z _ (by simp [kn])
  have z7 : PySem.W.keepIn K (.ref (He.ga K (kn i))) = true := z _ (by simp [kn])
  have z17 : (He.eqO (PySem.W.findIn K (.ref (He.ga K (kn i))) "__init__") (some (some (.ref (He.ma K (He.ga K (kn i)) "__init__")))) && (PySem.W.isFn K (.ref (He.ma K (He.ga K (kn i)) "__init__")) && PySem.W.keepIn K (.ref (He.ma K (He.ga K (kn i)) "__init__")))) = true := z _ (by simp [kn])
  obtain ⟨a1, a2⟩ := Bool.and_eq_true_iff.mp z17
  exact ⟨z6, He.eqO_ok a1, (Bool.and_eq_true_iff.mp a2).1, z7⟩
theorem ini0_ok (c2 : exB K = true) : PySem.W.findIn K (.ref (He.ga K (kn 0))) "__init__" = some (some (.builtin "object.__init__")) := by
  have ex := all_and c2
  unfold exL at ex
  have x1 : kcs.all (fun y => (kcL K y.1 y.2.2).all id) = true := ex _ (by simp)
  have z := all_and (List.all_eq_true.mp x1 _ (kcs_mem (i := 0) (by decide)))
  unfold kcL at z
  have z17 : He.eqO (PySem.W.findIn K (.ref (He.ga K (kn 0))) "__init__") (some (some (.builtin "object.__init__"))) = true := z _ (by
    have e : (kcs.getD 0 ("", [], false)).2.2 = false := by decide +kernel
    rw [e]
    simp [kn])
  exact He.eqO_ok z17
theorem bad_ok (X : K.In h) (G : h.Ns mainGlobals mg) (c2 : exB K = true) {I : DA} (hI : I.f = He.ma K (He.ga K "BadKind") "__init__")
    (fn : FunD K "__init__" "BadKind.__init__" (defArgs (inClass (top 8) 0)) (defBody (inClass (top 8) 0)) (defScope (inClass (top 8) 0)) [] [] I.f I.fd) (b : Binds K I.fd ["self", "part"] []) : BadT K mg (He.ga K "BadKind") I := by
  have ex := all_and c2
  unfold exL at ex
  have y1 : oexB K (He.ga K "BadKind") = true := ex _ (by simp)
  have y2 : He.eqO (PySem.W.nsIn K mainGlobals "BadKind") (some (some (.ref (He.ga K "BadKind")))) = true := ex _ (by simp)
  have y3 : He.eqO (PySem.W.findIn K (.ref (He.ga K "BadKind")) "__setattr__") (some (some (.builtin "object.__setattr__"))) = true := ex _ (by simp)
  have y4 : eqB (PySem.W.subIn K (.ref (He.ga K "BadKind")) (.type "BaseException")) (some true) = true := ex _ (by simp)
  have y5 : decide (PySem.W.typeIn K (.ref (He.ga K "BadKind")) = some (.type "type")) = true := ex _ (by simp)
  have y6 : PySem.W.keepIn K (.ref (He.ga K "BadKind")) = true := ex _ (by simp)
  have y7 : He.eqO (PySem.W.findIn K (.ref (He.ga K "BadKind")) "__getattribute__") (some (some (.builtin "BaseException.__getattribute__"))) = true := ex _ (by simp)
  have y8 : He.eqO (PySem.W.findIn K (.ref (He.ga K "BadKind")) "__getattr__") (some none) = true := ex _ (by simp)
  have y9 : PySem.W.hasDictIn K (He.ga K "BadKind") = true := ex _ (by simp)
  have y10 : eqB (PySem.W.exmOne K (.ref (He.ga K "BadKind")) (.ref (He.ga K "BadKind"))) (some true) = true := ex _ (by simp)
  have y11 : He.eqO (PySem.W.findIn K (.ref (He.ga K "BadKind")) "part") (some none) = true := ex _ (by simp)
  have y12 : He.eqO (PySem.W.findIn K (.ref (He.ga K "BadKind")) "__init__") (some (some (.ref (He.ma K (He.ga K "BadKind") "__init__")))) = true := ex _ (by simp)
  have y13 : decide (PySem.W.typeIn K (.ref (He.ma K (He.ga K "BadKind") "__init__")) = some (.type "function")) = true := ex _ (by simp)
  exact { ox := ⟨oexB_ok y1, He.eqO_ok y3, eqB_ok y4, of_decide_eq_true y5, y6⟩, gl := PySem.W.mg_of X G (He.eqO_ok y2), xf := ⟨He.eqO_ok y7, He.eqO_ok y8, eqB_ok y4, y9⟩, ex := eqB_ok y10, no := He.eqO_ok y11, ini := by rw [hI]; exact He.eqO_ok y12, ti := by rw [hI]; exact of_decide_eq_true y13, fn := fn, b := b }
theorem vals_nil {ds : List Value} (r : Vals [] ds) : ds = [] := by cases r; rfl
theorem vals_non {ds : List Value} (r : Vals [V.non] ds) : ds = [.none] := by
  cases r with
  | cons a b =>
    cases b
    rw [show _ = Value.none from a]
theorem mk_txt (X : K.In h) (G : h.Ns mainGlobals mg) (e : obsK K = valK) : ∃ a : Ad, a.law.f = He.ga K "law" ∧ Txt K mg a := by
  have c : He.SaysD fa fn K := congrArg (fun z : AlK => z.1) e
  have c2 : exB K = true := congrArg (fun z : AlK => z.2) e
  obtain ⟨fd0, F0⟩ := c.def_ 0 (d := dG "is_int" 1) rfl
  obtain ⟨fd1, F1⟩ := c.def_ 1 (d := dG "is_int_within" 2) rfl
  obtain ⟨fd2, F2⟩ := c.def_ 2 (d := dG "is_name" 3) rfl
  obtain ⟨fd3, F3⟩ := c.def_ 3 (d := dG "is_bits" 4) rfl
  obtain ⟨fd4, F4⟩ := c.def_ 4 (d := dG "is_word" 5) rfl
  obtain ⟨fd5, F5⟩ := c.def_ 5 (d := dG "is_simple" 15) rfl
  obtain ⟨fd6, F6⟩ := c.def_ 6 (d := dG "check_word_and_name" 22) rfl
  obtain ⟨fd7, F7⟩ := c.def_ 7 (d := dG "are_ways" 23) rfl
  obtain ⟨fd8, F8⟩ := c.def_ 8 (d := dG "are_parts" 24) rfl
  obtain ⟨fd9, F9⟩ := c.def_ 9 (d := dG "have_unlike_names" 25) rfl
  obtain ⟨fd10, F10⟩ := c.def_ 10 (d := dG "are_apart" 26) rfl
  obtain ⟨fd11, F11⟩ := c.def_ 11 (d := dG "_law_is_int" 28) rfl
  obtain ⟨fd12, F12⟩ := c.def_ 12 (d := dG "_law_same_dict" 29) rfl
  obtain ⟨fd13, F13⟩ := c.def_ 13 (d := dG "_law_same" 30) rfl
  obtain ⟨fd14, F14⟩ := c.def_ 14 (d := dG "_law_start" 31) rfl
  obtain ⟨fd15, F15⟩ := c.def_ 15 (d := dG "_law_pull" 32) rfl
  obtain ⟨fd16, F16⟩ := c.def_ 16 (d := dG "_law_big" 33) rfl
  obtain ⟨fd17, F17⟩ := c.def_ 17 (d := dG "_law_name" 34) rfl
  obtain ⟨fd18, F18⟩ := c.def_ 18 (d := dG "_law_bits" 35) rfl
  obtain ⟨fd19, F19⟩ := c.def_ 19 (d := dG "_law_words" 36) rfl
  obtain ⟨fd20, F20⟩ := c.def_ 20 (d := dG "_law_number" 37) rfl
  obtain ⟨fd21, F21⟩ := c.def_ 21 (d := dG "_law_flat" 38) rfl
  obtain ⟨fd22, F22⟩ := c.def_ 22 (d := dG "_law_simple" 39) rfl
  obtain ⟨fd23, F23⟩ := c.def_ 23 (d := dG "_law_kind" 40) rfl
  obtain ⟨fd24, F24⟩ := c.def_ 24 (d := dG "_law_way" 41) rfl
  obtain ⟨fd25, F25⟩ := c.def_ 25 (d := dG "_law_place" 42) rfl
  obtain ⟨fd26, F26⟩ := c.def_ 26 (d := dG "_law_any_inner" 43) rfl
  obtain ⟨fd27, F27⟩ := c.def_ 27 (d := dG "_law_any" 44) rfl
  obtain ⟨fd28, F28⟩ := c.def_ 28 (d := dG "_law_changed_simple" 45) rfl
  obtain ⟨fd29, F29⟩ := c.def_ 29 (d := dG "_law_changed_inner" 46) rfl
  obtain ⟨fd30, F30⟩ := c.def_ 30 (d := dG "_law_changed" 47) rfl
  obtain ⟨fd31, F31⟩ := c.def_ 31 (d := dG "law" 48) rfl
  obtain ⟨fd32, F32⟩ := c.def_ 32 (d := dM "BadKind" "__init__" 8 0 []) rfl
  obtain ⟨fd33, F33⟩ := c.def_ 33 (d := dM "Nothing" "__eq__" 10 0 []) rfl
  obtain ⟨fd34, F34⟩ := c.def_ 34 (d := dM "Number" "__init__" 11 0 [.non]) rfl
  obtain ⟨fd35, F35⟩ := c.def_ 35 (d := dM "Number" "__eq__" 11 1 []) rfl
  obtain ⟨fd36, F36⟩ := c.def_ 36 (d := dM "Bits" "__init__" 12 0 []) rfl
  obtain ⟨fd37, F37⟩ := c.def_ 37 (d := dM "Bits" "__eq__" 12 1 []) rfl
  obtain ⟨fd38, F38⟩ := c.def_ 38 (d := dM "Call" "__init__" 13 0 []) rfl
  obtain ⟨fd39, F39⟩ := c.def_ 39 (d := dM "Call" "__eq__" 13 1 []) rfl
  obtain ⟨fd40, F40⟩ := c.def_ 40 (d := dM "Items" "__init__" 14 0 [.non]) rfl
  obtain ⟨fd41, F41⟩ := c.def_ 41 (d := dM "Items" "__eq__" 14 1 []) rfl
  obtain ⟨fd42, F42⟩ := c.def_ 42 (d := dM "Way" "__init__" 16 0 []) rfl
  obtain ⟨fd43, F43⟩ := c.def_ 43 (d := dM "Way" "__eq__" 16 1 []) rfl
  obtain ⟨fd44, F44⟩ := c.def_ 44 (d := dM "Door" "__init__" 17 0 []) rfl
  obtain ⟨fd45, F45⟩ := c.def_ 45 (d := dM "Door" "__eq__" 17 1 []) rfl
  obtain ⟨fd46, F46⟩ := c.def_ 46 (d := dM "Part" "__init__" 18 0 []) rfl
  obtain ⟨fd47, F47⟩ := c.def_ 47 (d := dM "Part" "__eq__" 18 1 []) rfl
  obtain ⟨fd48, F48⟩ := c.def_ 48 (d := dM "Room" "__init__" 19 0 []) rfl
  obtain ⟨fd49, F49⟩ := c.def_ 49 (d := dM "Room" "__eq__" 19 1 []) rfl
  obtain ⟨fd50, F50⟩ := c.def_ 50 (d := dM "Choice" "__init__" 20 0 []) rfl
  obtain ⟨fd51, F51⟩ := c.def_ 51 (d := dM "Choice" "__eq__" 20 1 []) rfl
  obtain ⟨fd52, F52⟩ := c.def_ 52 (d := dM "Row" "__init__" 21 0 []) rfl
  obtain ⟨fd53, F53⟩ := c.def_ 53 (d := dM "Row" "__eq__" 21 1 []) rfl
  obtain ⟨d1a, r1a, b1a⟩ := FunD.binds1 (ps := ["self", "low", "high", "width"]) F34 4 1 (List.cons_ne_nil V.non []) rfl fun _ _ _ _ _ _ _ us its hu hi => match us, its, hu, hi with | [_, _, _, _], [_], _, _ => ⟨_, rfl, rfl⟩
  obtain ⟨d1b, r1b, b1b⟩ := FunD.binds1 (ps := ["self", "low", "high", "width"]) F34 3 0 (List.cons_ne_nil V.non []) rfl fun _ _ _ _ _ _ _ us its hu hi => match us, its, hu, hi with | [_, _, _], [_], _, _ => ⟨_, rfl, rfl⟩
  obtain ⟨d4a, r4a, b4a⟩ := FunD.binds1 (ps := ["self", "item", "width"]) F40 3 1 (List.cons_ne_nil V.non []) rfl fun _ _ _ _ _ _ _ us its hu hi => match us, its, hu, hi with | [_, _, _], [_], _, _ => ⟨_, rfl, rfl⟩
  obtain ⟨d4b, r4b, b4b⟩ := FunD.binds1 (ps := ["self", "item", "width"]) F40 2 0 (List.cons_ne_nil V.non []) rfl fun _ _ _ _ _ _ _ us its hu hi => match us, its, hu, hi with | [_, _], [_], _, _ => ⟨_, rfl, rfl⟩
  cases vals_nil r1a
  cases vals_non r1b
  cases vals_nil r4a
  cases vals_non r4b
  refine ⟨{ C := fun i => He.ga K (kn i), I := fun i => ⟨He.ma K (He.ga K (kn i)) "__init__", ([fd0, fd34, fd36, fd38, fd40, fd42, fd44, fd46, fd48, fd50, fd52] : List FuncData).getD i fd0⟩, E := fun i => ⟨He.ma K (He.ga K (kn i)) "__eq__", ([fd33, fd35, fd37, fd39, fd41, fd43, fd45, fd47, fd49, fd51, fd53] : List FuncData).getD i fd0⟩, bad := He.ga K "BadKind", badI := ⟨He.ma K (He.ga K "BadKind") "__init__", fd32⟩, is_int := ⟨He.ga K "is_int", fd0⟩, is_int_within := ⟨He.ga K "is_int_within", fd1⟩, is_name := ⟨He.ga K "is_name", fd2⟩, is_bits := ⟨He.ga K "is_bits", fd3⟩, is_word := ⟨He.ga K "is_word", fd4⟩, is_simple := ⟨He.ga K "is_simple", fd5⟩, check_word_and_name := ⟨He.ga K "check_word_and_name", fd6⟩, are_ways := ⟨He.ga K "are_ways", fd7⟩, are_parts := ⟨He.ga K "are_parts", fd8⟩, have_unlike_names := ⟨He.ga K "have_unlike_names", fd9⟩, are_apart := ⟨He.ga K "are_apart", fd10⟩, _law_is_int := ⟨He.ga K "_law_is_int", fd11⟩, _law_same_dict := ⟨He.ga K "_law_same_dict", fd12⟩, _law_same := ⟨He.ga K "_law_same", fd13⟩, _law_start := ⟨He.ga K "_law_start", fd14⟩, _law_pull := ⟨He.ga K "_law_pull", fd15⟩, _law_big := ⟨He.ga K "_law_big", fd16⟩, _law_name := ⟨He.ga K "_law_name", fd17⟩, _law_bits := ⟨He.ga K "_law_bits", fd18⟩, _law_words := ⟨He.ga K "_law_words", fd19⟩, _law_number := ⟨He.ga K "_law_number", fd20⟩, _law_flat := ⟨He.ga K "_law_flat", fd21⟩, _law_simple := ⟨He.ga K "_law_simple", fd22⟩, _law_kind := ⟨He.ga K "_law_kind", fd23⟩, _law_way := ⟨He.ga K "_law_way", fd24⟩, _law_place := ⟨He.ga K "_law_place", fd25⟩, _law_any_inner := ⟨He.ga K "_law_any_inner", fd26⟩, _law_any := ⟨He.ga K "_law_any", fd27⟩, _law_changed_simple := ⟨He.ga K "_law_changed_simple", fd28⟩, _law_changed_inner := ⟨He.ga K "_law_changed_inner", fd29⟩, _law_changed := ⟨He.ga K "_law_changed", fd30⟩, law := ⟨He.ga K "law", fd31⟩ }, rfl, ?_⟩
  exact { kc := kc_ok X G c2 _ (fun _ _ => rfl), bad := bad_ok X G c2 rfl F32 (FunD.bindsN F32 fun _ _ _ _ _ _ us hl => match us, hl with | [_, _], _ => rfl), ini0 := ini0_ok c2, isinstance := He.free_ok X G (c.fact 32 (f := .free "isinstance") rfl), int := He.free_ok X G (c.fact 33 (f := .free "int") rfl), bool := He.free_ok X G (c.fact 34 (f := .free "bool") rfl), str := He.free_ok X G (c.fact 35 (f := .free "str") rfl), dict := He.free_ok X G (c.fact 36 (f := .free "dict") rfl), list := He.free_ok X G (c.fact 37 (f := .free "list") rfl), tuple := He.free_ok X G (c.fact 38 (f := .free "tuple") rfl), len := He.free_ok X G (c.fact 39 (f := .free "len") rfl), range := He.free_ok X G (c.fact 40 (f := .free "range") rfl), all := He.free_ok X G (c.fact 41 (f := .free "all") rfl), any := He.free_ok X G (c.fact 42 (f := .free "any") rfl), enumerate := He.free_ok X G (c.fact 43 (f := .free "enumerate") rfl), min := He.free_ok X G (c.fact 44 (f := .free "min") rfl), is_int := ⟨F0, He.glo_ok X G (c.fact 0 (f := .glo "is_int") rfl), FunD.bindsN F0 fun _ _ _ _ _ _ us hl => match us, hl with | [_], _ => rfl⟩, is_int_within := ⟨F1, He.glo_ok X G (c.fact 1 (f := .glo "is_int_within") rfl), FunD.bindsN F1 fun _ _ _ _ _ _ us hl => match us, hl with | [_, _, _], _ => rfl⟩, is_name := ⟨F2, He.glo_ok X G (c.fact 2 (f := .glo "is_name") rfl), FunD.bindsN F2 fun _ _ _ _ _ _ us hl => match us, hl with | [_], _ => rfl⟩, is_bits := ⟨F3, He.glo_ok X G (c.fact 3 (f := .glo "is_bits") rfl), FunD.bindsN F3 fun _ _ _ _ _ _ us hl => match us, hl with | [_], _ => rfl⟩, is_word := ⟨F4, He.glo_ok X G (c.fact 4 (f := .glo "is_word") rfl), FunD.bindsN F4 fun _ _ _ _ _ _ us hl => match us, hl with | [_], _ => rfl⟩, is_simple := ⟨F5, He.glo_ok X G (c.fact 5 (f := .glo "is_simple") rfl), FunD.bindsN F5 fun _ _ _ _ _ _ us hl => match us, hl with | [_], _ => rfl⟩, check_word_and_name := ⟨F6, He.glo_ok X G (c.fact 6 (f := .glo "check_word_and_name") rfl), FunD.bindsN F6 fun _ _ _ _ _ _ us hl => match us, hl with | [_, _], _ => rfl⟩, are_ways := ⟨F7, He.glo_ok X G (c.fact 7 (f := .glo "are_ways") rfl), FunD.bindsN F7 fun _ _ _ _ _ _ us hl => match us, hl with | [_], _ => rfl⟩, are_parts := ⟨F8, He.glo_ok X G (c.fact 8 (f := .glo "are_parts") rfl), FunD.bindsN F8 fun _ _ _ _ _ _ us hl => match us, hl with | [_], _ => rfl⟩, have_unlike_names := ⟨F9, He.glo_ok X G (c.fact 9 (f := .glo "have_unlike_names") rfl), FunD.bindsN F9 fun _ _ _ _ _ _ us hl => match us, hl with | [_], _ => rfl⟩, are_apart := ⟨F10, He.glo_ok X G (c.fact 10 (f := .glo "are_apart") rfl), FunD.bindsN F10 fun _ _ _ _ _ _ us hl => match us, hl with | [_], _ => rfl⟩, _law_is_int := ⟨F11, He.glo_ok X G (c.fact 11 (f := .glo "_law_is_int") rfl), FunD.bindsN F11 fun _ _ _ _ _ _ us hl => match us, hl with | [_], _ => rfl⟩, _law_same_dict := ⟨F12, He.glo_ok X G (c.fact 12 (f := .glo "_law_same_dict") rfl), FunD.bindsN F12 fun _ _ _ _ _ _ us hl => match us, hl with | [_, _], _ => rfl⟩, _law_same := ⟨F13, He.glo_ok X G (c.fact 13 (f := .glo "_law_same") rfl), FunD.bindsN F13 fun _ _ _ _ _ _ us hl => match us, hl with | [_, _], _ => rfl⟩, _law_start := ⟨F14, He.glo_ok X G (c.fact 14 (f := .glo "_law_start") rfl), FunD.bindsN F14 fun _ _ _ _ _ _ us hl => match us, hl with | [_], _ => rfl⟩, _law_pull := ⟨F15, He.glo_ok X G (c.fact 15 (f := .glo "_law_pull") rfl), FunD.bindsN F15 fun _ _ _ _ _ _ us hl => match us, hl with | [_, _], _ => rfl⟩, _law_big := ⟨F16, He.glo_ok X G (c.fact 16 (f := .glo "_law_big") rfl), FunD.bindsN F16 fun _ _ _ _ _ _ us hl => match us, hl with | [_, _], _ => rfl⟩, _law_name := ⟨F17, He.glo_ok X G (c.fact 17 (f := .glo "_law_name") rfl), FunD.bindsN F17 fun _ _ _ _ _ _ us hl => match us, hl with | [_, _], _ => rfl⟩, _law_bits := ⟨F18, He.glo_ok X G (c.fact 18 (f := .glo "_law_bits") rfl), FunD.bindsN F18 fun _ _ _ _ _ _ us hl => match us, hl with | [_, _], _ => rfl⟩, _law_words := ⟨F19, He.glo_ok X G (c.fact 19 (f := .glo "_law_words") rfl), FunD.bindsN F19 fun _ _ _ _ _ _ us hl => match us, hl with | [_, _], _ => rfl⟩, _law_number := ⟨F20, He.glo_ok X G (c.fact 20 (f := .glo "_law_number") rfl), FunD.bindsN F20 fun _ _ _ _ _ _ us hl => match us, hl with | [_, _], _ => rfl⟩, _law_flat := ⟨F21, He.glo_ok X G (c.fact 21 (f := .glo "_law_flat") rfl), FunD.bindsN F21 fun _ _ _ _ _ _ us hl => match us, hl with | [_, _, _], _ => rfl⟩, _law_simple := ⟨F22, He.glo_ok X G (c.fact 22 (f := .glo "_law_simple") rfl), FunD.bindsN F22 fun _ _ _ _ _ _ us hl => match us, hl with | [_, _, _], _ => rfl⟩, _law_kind := ⟨F23, He.glo_ok X G (c.fact 23 (f := .glo "_law_kind") rfl), FunD.bindsN F23 fun _ _ _ _ _ _ us hl => match us, hl with | [_], _ => rfl⟩, _law_way := ⟨F24, He.glo_ok X G (c.fact 24 (f := .glo "_law_way") rfl), FunD.bindsN F24 fun _ _ _ _ _ _ us hl => match us, hl with | [_], _ => rfl⟩, _law_place := ⟨F25, He.glo_ok X G (c.fact 25 (f := .glo "_law_place") rfl), FunD.bindsN F25 fun _ _ _ _ _ _ us hl => match us, hl with | [_], _ => rfl⟩, _law_any_inner := ⟨F26, He.glo_ok X G (c.fact 26 (f := .glo "_law_any_inner") rfl), FunD.bindsN F26 fun _ _ _ _ _ _ us hl => match us, hl with | [_, _], _ => rfl⟩, _law_any := ⟨F27, He.glo_ok X G (c.fact 27 (f := .glo "_law_any") rfl), FunD.bindsN F27 fun _ _ _ _ _ _ us hl => match us, hl with | [_, _], _ => rfl⟩, _law_changed_simple := ⟨F28, He.glo_ok X G (c.fact 28 (f := .glo "_law_changed_simple") rfl), FunD.bindsN F28 fun _ _ _ _ _ _ us hl => match us, hl with | [_, _], _ => rfl⟩, _law_changed_inner := ⟨F29, He.glo_ok X G (c.fact 29 (f := .glo "_law_changed_inner") rfl), FunD.bindsN F29 fun _ _ _ _ _ _ us hl => match us, hl with | [_, _], _ => rfl⟩, _law_changed := ⟨F30, He.glo_ok X G (c.fact 30 (f := .glo "_law_changed") rfl), FunD.bindsN F30 fun _ _ _ _ _ _ us hl => match us, hl with | [_, _], _ => rfl⟩, law := ⟨F31, He.glo_ok X G (c.fact 31 (f := .glo "law") rfl), FunD.bindsN F31 fun _ _ _ _ _ _ us hl => match us, hl with | [_], _ => rfl⟩, E0 := F33, Eb0 := FunD.bindsN F33 fun _ _ _ _ _ _ us hl => match us, hl with | [_, _], _ => rfl, E1 := F35, Eb1 := FunD.bindsN F35 fun _ _ _ _ _ _ us hl => match us, hl with | [_, _], _ => rfl, I1 := F34, mk1 := mk_ok c2 1 (by decide) (by decide), Ib1 := b1a, Id1 := b1b, E2 := F37, Eb2 := FunD.bindsN F37 fun _ _ _ _ _ _ us hl => match us, hl with | [_, _], _ => rfl, I2 := F36, mk2 := mk_ok c2 2 (by decide) (by decide), Ib2 := FunD.bindsN F36 fun _ _ _ _ _ _ us hl => match us, hl with | [_, _], _ => rfl, E3 := F39, Eb3 := FunD.bindsN F39 fun _ _ _ _ _ _ us hl => match us, hl with | [_, _], _ => rfl, I3 := F38, mk3 := mk_ok c2 3 (by decide) (by decide), Ib3 := FunD.bindsN F38 fun _ _ _ _ _ _ us hl => match us, hl with | [_, _], _ => rfl, E4 := F41, Eb4 := FunD.bindsN F41 fun _ _ _ _ _ _ us hl => match us, hl with | [_, _], _ => rfl, I4 := F40, mk4 := mk_ok c2 4 (by decide) (by decide), Ib4 := b4a, Id4 := b4b, E5 := F43, Eb5 := FunD.bindsN F43 fun _ _ _ _ _ _ us hl => match us, hl with | [_, _], _ => rfl, I5 := F42, mk5 := mk_ok c2 5 (by decide) (by decide), Ib5 := FunD.bindsN F42 fun _ _ _ _ _ _ us hl => match us, hl with | [_, _, _, _], _ => rfl, E6 := F45, Eb6 := FunD.bindsN F45 fun _ _ _ _ _ _ us hl => match us, hl with | [_, _], _ => rfl, I6 := F44, mk6 := mk_ok c2 6 (by decide) (by decide), Ib6 := FunD.bindsN F44 fun _ _ _ _ _ _ us hl => match us, hl with | [_, _, _, _], _ => rfl, E7 := F47, Eb7 := FunD.bindsN F47 fun _ _ _ _ _ _ us hl => match us, hl with | [_, _], _ => rfl, I7 := F46, mk7 := mk_ok c2 7 (by decide) (by decide), Ib7 := FunD.bindsN F46 fun _ _ _ _ _ _ us hl => match us, hl with | [_, _, _], _ => rfl, E8 := F49, Eb8 := FunD.bindsN F49 fun _ _ _ _ _ _ us hl => match us, hl with | [_, _], _ => rfl, I8 := F48, mk8 := mk_ok c2 8 (by decide) (by decide), Ib8 := FunD.bindsN F48 fun _ _ _ _ _ _ us hl => match us, hl with | [_, _, _, _], _ => rfl, E9 := F51, Eb9 := FunD.bindsN F51 fun _ _ _ _ _ _ us hl => match us, hl with | [_, _], _ => rfl, I9 := F50, mk9 := mk_ok c2 9 (by decide) (by decide), Ib9 := FunD.bindsN F50 fun _ _ _ _ _ _ us hl => match us, hl with | [_, _], _ => rfl, E10 := F53, Eb10 := FunD.bindsN F53 fun _ _ _ _ _ _ us hl => match us, hl with | [_, _], _ => rfl, I10 := F52, mk10 := mk_ok c2 10 (by decide) (by decide), Ib10 := FunD.bindsN F52 fun _ _ _ _ _ _ us hl => match us, hl with | [_, _], _ => rfl }
end
end Me
set_option maxHeartbeats 0
open PySem PySem.W PySem.Calls PyProof.Rows
theorem PySem.Challenge.cw_roomleft_k05_equality_of_kinds_holds : PySem.Challenge.rw_roomleft_k05_equality_of_kinds.Holds := by
  w_on; o_law
  refine HandSHeadRun.head_any (r := OpenLaw.row PySem.Challenge.rw_roomleft_k05_equality_of_kinds) (q := view (OpenLaw.row PySem.Challenge.rw_roomleft_k05_equality_of_kinds).prog [48]) (H := Me.hk) (ob := Me.ob) (M := 6000) (loose := Me.loose)
    (d := HandSHeadRun.topDef (OpenLaw.row PySem.Challenge.rw_roomleft_k05_equality_of_kinds).prog 48) (kwd := []) Me.ob_eq
    (by kernel_rfl) (fun s => by kernel_rfl) Me.run (by kernel_rfl) (by kernel_rfl) (by kernel_rfl) (by rfl) (by first | assumption | decide +kernel) (by decide +kernel) ⟨rfl, rfl, rfl, rfl, rfl, by decide +kernel⟩ ?hw ?hc
  case hw => w_witness2
  case hc =>
    refine L2.walk_ofE (l := PySem.Challenge.rw_roomleft_k05_equality_of_kinds) (n := 63) (k := 10) (x := "_law_script") (CX := L2.CX0) rfl (by decide) (by kernel_rfl) ⟨rfl, by decide, by decide⟩ ?F (fun _ _ _ _ z => z)
    intro w mg f h Y G hmg0
    obtain ⟨K, KX, c⟩ := Y
    have hmg : mg ("law" : PySem.Str) = some (.ref f) := by
      have e : (HandSHeadRun.topDef (OpenLaw.row PySem.Challenge.rw_roomleft_k05_equality_of_kinds).prog 48).name = ("law" : PySem.Str) := by kernel_rfl
      rw [← e]
      exact hmg0
    obtain ⟨a, ea, T⟩ := Me.mk_txt KX G c
    have ef := hmg.symm.trans T.law.mg
    cases ef
    refine ⟨K, a.law.fd, Me.spLaw K, KX, fun s v => ?_, fun H b ns hl _ hS => ⟨b, ns, rfl, hS, hl, fun _ => rfl⟩, fun base _ _ => Me.ok_law T⟩
    have bd := T.law.b
    exact L2.FunD.bindsA (ps := ["_law_script"]) T.law.fn (fun _ _ _ _ _ _ us hl => match us, hl with | [_], _ => rfl) s [v] rfl
