import PyProof.Rows.All
import Wide.All
import OpenK.AllK
import Wide.FinOn
import KE.KStateDown
import HandS.Base
import HandS.Call
import HandS.Ends
import HandS.More
import HandS.Words
import HandS.Exc
import HandS.Defaults
import HandS.HeadHook1
import HandS.HeadHook2
import HandS.Head0
import HandS.Head1
import HandS.Head2
import HandS.ForMost
import HandS.ForExc
import HandS.ExcInit
import HandS.ExcField
import HandS.IsInst
import HandS.Wide
import HandS.OwnEq
import KE.KxText
import HandS.StrMore
import PyProof.Rows.StrCut
import HandS.SetBool
import HandS.SetKeys
import PyProof.Rows.SetListFold
import HandS.SetFor
import HandS.Text
import HandS.HeadEnd
import PySem.Challenge.RW_roomleft_k04_choices_and_rows_refused_or
set_option Elab.async false
set_option linter.all false
set_option maxRecDepth 100000
set_option maxHeartbeats 8000000
namespace Me
open PySem PySem.Spec PyProof.Rows L2
/-! ### the text -/
def top (i : Nat) : Stmt := PySem.Challenge.pw_roomleft_k04_choices_and_rows_refused_or.main.body.getD i (.Pass ⟨0, 0, 0, 0⟩)
/-- the classes of kinds: name, fields, has its own __init__ -/
def kcs : List (Str × List Str × Bool) := [("Nothing", [], false), ("Number", ["low", "high", "width"], true), ("Bits", ["many"], true), ("Call", ["name"], true), ("Items", ["item", "width"], true), ("Way", ["word", "name", "kind"], true), ("Door", ["word", "name", "kind"], true), ("Part", ["name", "kind"], true), ("Room", ["word", "name", "kind"], true), ("Choice", ["ways"], true), ("Row", ["parts"], true)]
def allK : List Str := ["low", "high", "width", "many", "name", "item", "word", "kind", "ways", "parts"]
def tys : List String := ["NoneType", "bool", "int", "str", "tuple", "list", "dict"]
/-! ### what is asked of the written part -/
def oexB (K : PySem.W.Frag) (C : Addr) : Bool := match K.lookup C with
  | some ⟨.type "type", _, .cls cd, sl⟩ => (match cd.mro, sl.toList with
    | .ref C' :: bm, [_, _, _, _, some (.builtin n), _] => C' == C && (n == "ValueError.__new__" && (!cd.hasDel && (cd.hasDict && PySem.HandSPX.refsVE bm)))
    | _, _ => false)
  | _ => false
def eqB (a b : Option Bool) : Bool := decide (a = b)
def kcL (K : PySem.W.Frag) (x : Str) (ini : Bool) : List Bool :=
  [He.eqO (PySem.W.nsIn K mainGlobals x) (some (some (.ref (He.ga K x)))), PySem.W.plainGet K (He.ga K x) Str.empty, PySem.W.hasDictIn K (He.ga K x), PySem.W.plainOver K (He.ga K x), He.eqO (PySem.W.findIn K (.ref (He.ga K x)) "__setattr__") (some (some (.builtin "object.__setattr__"))),
   PySem.W.makesIn K (He.ga K x), PySem.W.keepIn K (.ref (He.ga K x)), He.eqO (PySem.W.findIn K (.ref (He.ga K x)) "__class__") (some (some (.builtin "object.__class__"))), eqB (PySem.W.mroIn K (He.ga K x) (.type "object")) (some true),
   allK.all (fun f => He.eqO (PySem.W.findIn K (.ref (He.ga K x)) f) (some none)), He.eqO (PySem.W.findIn K (.ref (He.ga K x)) "__eq__") (some (some (.ref (He.ma K (He.ga K x) "__eq__")))), PySem.W.isFn K (.ref (He.ma K (He.ga K x) "__eq__")), PySem.W.keepIn K (.ref (He.ma K (He.ga K x) "__eq__")),
   kcs.all (fun y => eqB (PySem.W.kitOne K (.ref (He.ga K x)) (.ref (He.ga K y.1))) (some (decide (x = y.1)))), tys.all (fun t => eqB (PySem.W.kitOne K (.ref (He.ga K x)) (.type t)) (some false)), tys.all (fun t => eqB (PySem.W.kitOne K (.type t) (.ref (He.ga K x))) (some false)),
   if ini then He.eqO (PySem.W.findIn K (.ref (He.ga K x)) "__init__") (some (some (.ref (He.ma K (He.ga K x) "__init__")))) && (PySem.W.isFn K (.ref (He.ma K (He.ga K x) "__init__")) && PySem.W.keepIn K (.ref (He.ma K (He.ga K x) "__init__"))) else He.eqO (PySem.W.findIn K (.ref (He.ga K x)) "__init__") (some (some (.builtin "object.__init__")))]
def exL (K : PySem.W.Frag) : List Bool :=
  [kcs.all (fun y => (kcL K y.1 y.2.2).all id), oexB K (He.ga K "BadKind"), He.eqO (PySem.W.nsIn K mainGlobals "BadKind") (some (some (.ref (He.ga K "BadKind")))), He.eqO (PySem.W.findIn K (.ref (He.ga K "BadKind")) "__setattr__") (some (some (.builtin "object.__setattr__"))),
   eqB (PySem.W.subIn K (.ref (He.ga K "BadKind")) (.type "BaseException")) (some true), decide (PySem.W.typeIn K (.ref (He.ga K "BadKind")) = some (.type "type")), PySem.W.keepIn K (.ref (He.ga K "BadKind")),
   He.eqO (PySem.W.findIn K (.ref (He.ga K "BadKind")) "__getattribute__") (some (some (.builtin "BaseException.__getattribute__"))), He.eqO (PySem.W.findIn K (.ref (He.ga K "BadKind")) "__getattr__") (some none), PySem.W.hasDictIn K (He.ga K "BadKind"),
   eqB (PySem.W.exmOne K (.ref (He.ga K "BadKind")) (.ref (He.ga K "BadKind"))) (some true), He.eqO (PySem.W.findIn K (.ref (He.ga K "BadKind")) "part") (some none), He.eqO (PySem.W.findIn K (.ref (He.ga K "BadKind")) "__init__") (some (some (.ref (He.ma K (He.ga K "BadKind") "__init__")))),
   decide (PySem.W.typeIn K (.ref (He.ma K (He.ga K "BadKind") "__init__")) = some (.type "function")), He.eqO (PySem.W.specialIn K (.builtin "object.__class__") "__get__") (some (some (.builtin "getset_descriptor.__get__"))), eqB (PySem.W.takesIn K (.builtin "object.__class__")) (some true)]
def exB (K : PySem.W.Frag) : Bool := (exL K).all id
def dG (x : Str) (i : Nat) : He.DefD := ⟨(x, none), x, x, defArgs (top i), defBody (top i), defScope (top i), [], []⟩
def dM (c m : Str) (i j : Nat) (d : List He.Dv) : He.DefD := ⟨(c, some m), m, c ++ "." ++ m, defArgs (inClass (top i) j), defBody (inClass (top i) j), defScope (inClass (top i) j), d, []⟩
def fn1 : List He.DefD := [dG "is_int" 1, dG "is_int_within" 2, dG "is_name" 3, dG "is_bits" 4, dG "is_word" 5, dG "is_simple" 15, dG "check_word_and_name" 22, dG "are_ways" 23, dG "are_parts" 24, dG "have_unlike_names" 25, dG "are_apart" 26, dG "_law_is_int" 28, dG "_law_same_dict" 29, dG "_law_same" 30, dG "_law_start" 31, dG "_law_pull" 32, dG "_law_name" 33, dG "_law_bits" 34, dG "_law_words" 35, dG "_law_odd" 36, dG "_law_object" 37, dG "_law_rows" 38, dG "_law_spoil" 39, dG "_law_one" 40, dG "_law_plain" 41, dG "_law_good" 42, dG "_law_make" 43, dG "_law_told" 44, dG "_law_is_right" 45, dG "_law_kept" 46, dG "_law_after_change" 47, dG "law" 48]
def fn2 : List He.DefD := [dM "BadKind" "__init__" 8 0 [], dM "Nothing" "__eq__" 10 0 [], dM "Number" "__init__" 11 0 [.non], dM "Number" "__eq__" 11 1 [], dM "Bits" "__init__" 12 0 [], dM "Bits" "__eq__" 12 1 [], dM "Call" "__init__" 13 0 [], dM "Call" "__eq__" 13 1 [], dM "Items" "__init__" 14 0 [.non], dM "Items" "__eq__" 14 1 [], dM "Way" "__init__" 16 0 [], dM "Way" "__eq__" 16 1 [], dM "Door" "__init__" 17 0 [], dM "Door" "__eq__" 17 1 [], dM "Part" "__init__" 18 0 [], dM "Part" "__eq__" 18 1 [], dM "Room" "__init__" 19 0 [], dM "Room" "__eq__" 19 1 [], dM "Choice" "__init__" 20 0 [], dM "Choice" "__eq__" 20 1 [], dM "Row" "__init__" 21 0 [], dM "Row" "__eq__" 21 1 []]
def fn : List He.DefD := fn1 ++ fn2
def gls : List Str := ["is_int", "is_int_within", "is_name", "is_bits", "is_word", "is_simple", "check_word_and_name", "are_ways", "are_parts", "have_unlike_names", "are_apart", "_law_is_int", "_law_same_dict", "_law_same", "_law_start", "_law_pull", "_law_name", "_law_bits", "_law_words", "_law_odd", "_law_object", "_law_rows", "_law_spoil", "_law_one", "_law_plain", "_law_good", "_law_make", "_law_told", "_law_is_right", "_law_kept", "_law_after_change", "law"]
def frees : List Str := ["isinstance", "int", "bool", "str", "dict", "list", "tuple", "len", "range", "all", "any", "enumerate", "max"]
def fa : List He.Fa := gls.map .glo ++ frees.map .free
/-! ### the Hook -/
abbrev AlK : Type := He.AlD × Bool
def obsK (K : PySem.W.Frag) : AlK := (He.obsD fa fn K, exB K)
def valK : AlK := (He.valD fn, true)
def obK (g : Addr → Option Obj) : AlK := obsK (He.frG g (He.asD g 4))
def hk : PySem.W.Hook where
  α := AlK
  obs := fun s => obK s.heap.get?
  val := fun _ => valK
  says := fun _ h => ∃ K : PySem.W.Frag, K.In h ∧ obsK K = valK
  of := fun _ _ e => ⟨_, He.frG_in, e⟩
  keeps := fun _ _ _ ⟨K, hK, c⟩ k => ⟨K, PySem.W.Frag.In.keeps hK k, c⟩
theorem obK_eq {g : Addr → Option Obj} {s : Shared} (h : ∀ a, g a = s.heap.get? a) : obK g = hk.obs s := by
  have e : g = s.heap.get? := funext h
  rw [e] <;> rfl
end Me
set_option maxHeartbeats 0
namespace Me
open PySem PySem.Spec PyProof.Rows L2
abbrev R : PySem.W.OpenRow := PySem.W.OpenLaw.row PySem.Challenge.rw_roomleft_k04_choices_and_rows_refused_or
def ob (s : PySem.W.SharedT) : AlK := obK (HandSHeadRun.getT s)
theorem ob_eq (s : PySem.W.SharedT) : ob s = hk.obs s.abs := obK_eq (HandSHeadRun.getT_eq s)
def loose1 : List PySem.Str := ["RoomError", "BadKind", "Nothing", "Number", "Bits", "Call", "Items", "Way", "Door", "Part", "Room", "Choice", "Row"]
def loose2 : List PySem.Str := ["is_int", "is_int_within", "is_name", "is_bits", "is_word", "is_simple", "check_word_and_name", "are_ways", "are_parts", "have_unlike_names", "are_apart", "_law_is_int", "_law_same_dict"]
def loose3 : List PySem.Str := ["_law_same", "_law_start", "_law_pull", "_law_name", "_law_bits", "_law_words", "_law_odd", "_law_object", "_law_rows", "_law_spoil", "_law_one", "_law_plain", "_law_good"]
def loose4 : List PySem.Str := ["_law_make", "_law_told", "_law_is_right", "_law_kept", "_law_after_change"]
def loose : List PySem.Str := loose1 ++ loose2 ++ loose3 ++ loose4
theorem run (w : World) : HandSHeadRun.RunEq R (PySem.W.view R.prog [48]) hk ob 6000 loose w := by
  intro os
  kernel_rfl
end Me
set_option maxHeartbeats 8000000
namespace Me
open PySem L2
/-! ### the readings, one step each, what follows last -/
section
variable {σ : L2.St} {H : Hp} {Q : VK} {QB : Bool → Hp → Prop} {QA : List V → Hp → Prop} {D : Ends} {K : PySem.W.Frag}
theorem i_var {i : Nat} {v : V} (e : σ[i]? = some (some v)) (q : Q v H) : tVar i σ H Q := ⟨v, e, q⟩
theorem i_c {v : V} (q : Q v H) : tC v σ H Q := q
theorem i_op {r : R2} {ta tb : TE} (q : ta σ H fun x H1 => tb σ H1 fun y H2 => r x y H2 Q) : tOp r ta tb σ H Q := q
theorem i_un {r : V → Hp → VK → Prop} {ta : TE} (q : ta σ H fun x H1 => r x H1 Q) : tUn r ta σ H Q := q
theorem i_nil (q : QA [] H) : tNil σ H QA := q
theorem i_cons {ta : TE} {tr : TA} (q : ta σ H fun x H1 => tr σ H1 fun xs H2 => QA (x :: xs) H2) : tCons ta tr σ H QA := q
theorem i_cb {r : List V → Hp → VK → Prop} {t : TA} (q : t σ H fun vs H1 => r vs H1 Q) : tCB r t σ H Q := q
theorem i_call {sp : Sp} {dvs : List V} {E : XK} {t : TA} (q : t σ H fun vs H1 => sp (vs ++ dvs) H1 Q E) : tCall sp dvs E t σ H Q := q
theorem i_seq {t u : TS} (q : t { D with nx := u D } σ H) : tSeq t u D σ H := q
theorem i_next (q : D.nx σ H) : tNext D σ H := q
theorem i_asg {te : TE} {g : TG} (q : te σ H fun x H1 => g x σ H1 D.nx) : tAsg te g D σ H := q
theorem i_gname {i : Nat} {v : V} {R : L2.St → Hp → Prop} (q : R (σ.set i (some v)) H) : gName i v σ H R := q
theorem i_gsub {to ti : TE} {t : TSet} {v : V} {R : L2.St → Hp → Prop} (q : to σ H fun o H1 => ti σ H1 fun i H2 => t o i v H2 fun H3 => R σ H3) : gSub to ti t v σ H R := q
theorem i_ret {te : TE} (q : te σ H D.rt) : tRet te D σ H := q
theorem i_retN (q : D.rt .non H) : tRetN D σ H := q
theorem i_drop {te : TE} (q : te σ H fun _ H1 => D.nx σ H1) : tDrop te D σ H := q
theorem i_ifS {c : TT} {t u : TS} (q : c σ H fun b H1 => if b = true then t D σ H1 else u D σ H1) : tIfS c t u D σ H := q
theorem i_if {c : TT} {ta tb : TE} (q : c σ H fun b H1 => if b = true then ta σ H1 Q else tb σ H1 Q) : tIf c ta tb σ H Q := q
theorem i_and {t u : TT} (q : t σ H fun c H1 => if c = true then u σ H1 QB else QB false H1) : tAnd t u σ H QB := q
theorem i_or {t u : TT} (q : t σ H fun c H1 => if c = true then QB true H1 else u σ H1 QB) : tOr t u σ H QB := q
theorem i_not {t : TT} (q : t σ H fun c H1 => QB (!c) H1) : tNot t σ H QB := q
theorem i_andV {ta tb : TE} (q : ta σ H fun x H1 => ∃ c, x = .bl c ∧ if c = true then tb σ H1 Q else Q (.bl false) H1) : tAndV ta tb σ H Q := q
theorem i_orV {ta tb : TE} (q : ta σ H fun x H1 => ∃ c, x = .bl c ∧ if c = true then Q (.bl true) H1 else tb σ H1 Q) : tOrV ta tb σ H Q := q
theorem i_notV {ta : TE} (q : ta σ H fun x H1 => ∃ c, x = .bl c ∧ Q (.bl (!c)) H1) : tNotV ta σ H Q := q
theorem i_test {t : TE} (q : t σ H fun x H' => ∃ k, x = .bl k ∧ QB k H') : tTest t σ H QB := q
theorem i_tB {t : TE} (q : t σ H fun x H' => ∃ k, x = .bl k ∧ QB k H') : tB t σ H QB := q
theorem i_bl {b : Bool} {R : Bool → Prop} (q : R b) : ∃ k, V.bl b = .bl k ∧ R k := ⟨b, rfl, q⟩
theorem i_rI0 {g : Int → Int → V} {i j : Int} (q : Q (g i j) H) : rI0 g (.int i) (.int j) H Q := ⟨i, j, rfl, rfl, q⟩
theorem i_rI {C : Int → Int → Prop} {g : Int → Int → V} {i j : Int} (c : C i j) (q : Q (g i j) H) : rI C g (.int i) (.int j) H Q := ⟨i, j, rfl, rfl, c, q⟩
theorem i_rU {g : Int → V} {i : Int} (q : Q (g i) H) : rU g (.int i) H Q := ⟨i, rfl, q⟩
theorem i_rEq {x y : V} (s : scal x y = true) (q : Q (.bl (decide (x = y))) H) : rEq x y H Q := ⟨s, q⟩
theorem i_rNe {x y : V} (s : scal x y = true) (q : Q (.bl (!decide (x = y))) H) : rNe x y H Q := ⟨s, q⟩
theorem i_ixl {p : Addr} {xs : List V} {i : Int} {v : V} (h : H p = some (.lst xs)) (e : atI xs i = some v) (q : Q v H) : rIxL K (.ref p) (.int i) H Q := ⟨p, xs, i, v, rfl, rfl, SqL.of h, e, q⟩
theorem i_ixt {p : Addr} {xs : List V} {i : Int} {v : V} (h : H p = some (.tup xs)) (e : atI xs i = some v) (q : Q v H) : rIxT K (.ref p) (.int i) H Q := ⟨p, xs, i, v, rfl, rfl, SqT.of h, e, q⟩
theorem i_setl {p : Addr} {xs : List V} {k : Int} {j : Nat} {v : V} {R : Hp → Prop} (h : H p = some (.lst xs)) (e : ixN xs.length k = some j) (q : R (upd H p (.lst (xs.set j v)))) : rSetL (.ref p) (.int k) v H R := ⟨p, xs, k, j, rfl, rfl, h, e, q⟩
theorem i_lst {t : TA} (q : t σ H fun xs H1 => xs.length ≤ sizeLine ∧ ∀ p, H1 p = none → Q (.ref p) (upd H1 p (.lst xs))) : tLst t σ H Q := q
theorem i_tup {t : TA} (q : t σ H fun xs H1 => xs.length ≤ sizeLine ∧ ∀ p, H1 p = none → Q (.ref p) (upd H1 p (.tup xs))) : tTup t σ H Q := q
theorem i_dnew (q : ∀ p, H p = none → Q (.ref p) (upd H p (.dK []))) : tDNewK σ H Q := q
theorem i_len {p : Addr} {xs : List V} {R : V → Hp → Prop} {vs : List V} (ev : vs = [.ref p]) (h : H p = some (.lst xs)) (q : R (.int xs.length) H) : ∃ (p : Addr) (ys : List V), vs = [V.ref p] ∧ (SqL K H p ys ∨ SqT K H p ys) ∧ R (.int ys.length) H := ⟨p, xs, ev, .inl (SqL.of h), q⟩
theorem i_lenT {p : Addr} {xs : List V} {R : V → Hp → Prop} {vs : List V} (ev : vs = [.ref p]) (h : H p = some (.tup xs)) (q : R (.int xs.length) H) : ∃ (p : Addr) (ys : List V), vs = [V.ref p] ∧ (SqL K H p ys ∨ SqT K H p ys) ∧ R (.int ys.length) H := ⟨p, xs, ev, .inr (SqT.of h), q⟩
end
/-! ### tests -/
theorem i_itd {p : Prop} [Decidable p] {A B : Prop} (ht : p → A) (hf : ¬ p → B) : if decide p = true then A else B := by
  by_cases h : p
  · rw [if_pos (decide_eq_true h)]; exact ht h
  · rw [decide_eq_false h, if_neg Bool.false_ne_true]; exact hf h
theorem i_itn {p : Prop} [Decidable p] {A B : Prop} (ht : ¬ p → A) (hf : p → B) : if (!decide p) = true then A else B := by
  by_cases h : p
  · rw [decide_eq_true h]; exact hf h
  · rw [decide_eq_false h]; exact ht h
theorem i_itb {c : Bool} {A B : Prop} (ht : c = true → A) (hf : c = false → B) : if c = true then A else B := by
  cases c
  · exact hf rfl
  · exact ht rfl
theorem i_itei {a b : Int} {A B : Prop} (ht : a = b → A) (hf : a ≠ b → B) : if decide (V.int a = V.int b) = true then A else B :=
  i_itd (fun h => ht (V.int.inj h)) fun h => hf fun e => h (by rw [e])
theorem i_iten {a b : Int} {A B : Prop} (ht : a ≠ b → A) (hf : a = b → B) : if (!decide (V.int a = V.int b)) = true then A else B :=
  i_itn (fun h => ht fun e => h (by rw [e])) fun h => hf (V.int.inj h)
theorem i_ites {a b : Str} {A B : Prop} (ht : a = b → A) (hf : a ≠ b → B) : if decide (V.str a = V.str b) = true then A else B :=
  i_itd (fun h => ht (V.str.inj h)) fun h => hf fun e => h (by rw [e])
theorem i_itesn {a b : Str} {A B : Prop} (ht : a ≠ b → A) (hf : a = b → B) : if (!decide (V.str a = V.str b)) = true then A else B :=
  i_itn (fun h => ht fun e => h (by rw [e])) fun h => hf (V.str.inj h)
/-! ### the heap -/
theorem upd_get {H : Hp} {a b : Addr} {o : HO} {u : Option HO} (n : b ≠ a) (h : H b = u) : upd H a o b = u := by rw [upd_ne n]; exact h
theorem upd_none {H : Hp} {a b : Addr} {o : HO} (h : upd H a o b = none) : b ≠ a ∧ H b = none := by
  by_cases e : b = a
  · subst e; rw [upd_same] at h; cases h
  · rw [upd_ne e] at h; exact ⟨e, h⟩
theorem ne_lt {H : Hp} {a b : Addr} {xs ys : List V} (h : H a = some (.lst xs)) (h' : H b = some (.tup ys)) : a ≠ b := ne_of h h' (by intro z; cases z)
theorem ne_ll {H : Hp} {a b : Addr} {xs ys : List V} (h : H a = some (.lst xs)) (h' : H b = some (.lst ys)) (n : xs ≠ ys) : a ≠ b := ne_of h h' (by intro z; cases z; exact n rfl)
/-! ### the script's reader -/
/-- at p: a list of the items' list (at L), a place, a number that is used up, a number that is stirred -/
def StAt (H : Hp) (p L : Addr) : Prop := ∃ (ns : List Int) (i b c : Int), H p = some (.lst [.ref L, .int i, .int b, .int c]) ∧ H L = some (.lst (ns.map V.int)) ∧ ns.length ≤ 63 ∧ 0 ≤ i ∧ 0 ≤ b ∧ 0 ≤ c ∧ c < 2147483647
def StOk (H : Hp) (p : Addr) : Prop := ∃ L, StAt H p L
/-- the reader has gone on, nothing else has changed -/
def Went (p : Addr) (H H' : Hp) : Prop := StOk H' p ∧ (∀ a o, a ≠ p → H a = some o → H' a = some o) ∧ ∀ L, StAt H p L → StAt H' p L
theorem Went.get {p : Addr} {H H' : Hp} {a : Addr} {o : HO} (w : Went p H H') (n : a ≠ p) (h : H a = some o) : H' a = some o := w.2.1 a o n h
theorem Went.trans {p : Addr} {H H1 H2 : Hp} (a : Went p H H1) (b : Went p H1 H2) : Went p H H2 := ⟨b.1, fun x o n h => b.2.1 x o n (a.2.1 x o n h), fun L h => b.2.2 L (a.2.2 L h)⟩
theorem StAt.uniq {H : Hp} {p L L' : Addr} (h : StAt H p L) (h' : StAt H p L') : L = L' := by
  obtain ⟨_, _, _, _, e, _⟩ := h
  obtain ⟨_, _, _, _, e', _⟩ := h'
  rw [e] at e'
  injection e' with e'
  injection e' with e'
  injection e' with e' _
  exact V.ref.inj e'
theorem went_mk {H H' : Hp} {p L : Addr} (h : StAt H p L) (h' : StAt H' p L) (f : ∀ a o, a ≠ p → H a = some o → H' a = some o) : Went p H H' := ⟨⟨L, h'⟩, f, fun L' q => by rw [← h.uniq q]; exact h'⟩
theorem kb_NoneType_int : kitB "NoneType" "int" = some false := by decide +kernel
theorem kb_NoneType_bool : kitB "NoneType" "bool" = some false := by decide +kernel
theorem kb_NoneType_str : kitB "NoneType" "str" = some false := by decide +kernel
theorem kb_NoneType_dict : kitB "NoneType" "dict" = some false := by decide +kernel
theorem kb_NoneType_list : kitB "NoneType" "list" = some false := by decide +kernel
theorem kb_NoneType_tuple : kitB "NoneType" "tuple" = some false := by decide +kernel
theorem kb_bool_int : kitB "bool" "int" = some true := by decide +kernel
theorem kb_bool_bool : kitB "bool" "bool" = some true := by decide +kernel
theorem kb_bool_str : kitB "bool" "str" = some false := by decide +kernel
theorem kb_bool_dict : kitB "bool" "dict" = some false := by decide +kernel
theorem kb_bool_list : kitB "bool" "list" = some false := by decide +kernel
theorem kb_bool_tuple : kitB "bool" "tuple" = some false := by decide +kernel
theorem kb_int_int : kitB "int" "int" = some true := by decide +kernel
theorem kb_int_bool : kitB "int" "bool" = some false := by decide +kernel
theorem kb_int_str : kitB "int" "str" = some false := by decide +kernel
theorem kb_int_dict : kitB "int" "dict" = some false := by decide +kernel
theorem kb_int_list : kitB "int" "list" = some false := by decide +kernel
theorem kb_int_tuple : kitB "int" "tuple" = some false := by decide +kernel
theorem kb_str_int : kitB "str" "int" = some false := by decide +kernel
theorem kb_str_bool : kitB "str" "bool" = some false := by decide +kernel
theorem kb_str_str : kitB "str" "str" = some true := by decide +kernel
theorem kb_str_dict : kitB "str" "dict" = some false := by decide +kernel
theorem kb_str_list : kitB "str" "list" = some false := by decide +kernel
theorem kb_str_tuple : kitB "str" "tuple" = some false := by decide +kernel
theorem kb_tuple_int : kitB "tuple" "int" = some false := by decide +kernel
theorem kb_tuple_bool : kitB "tuple" "bool" = some false := by decide +kernel
theorem kb_tuple_str : kitB "tuple" "str" = some false := by decide +kernel
theorem kb_tuple_dict : kitB "tuple" "dict" = some false := by decide +kernel
theorem kb_tuple_list : kitB "tuple" "list" = some false := by decide +kernel
theorem kb_tuple_tuple : kitB "tuple" "tuple" = some true := by decide +kernel
theorem kb_list_int : kitB "list" "int" = some false := by decide +kernel
theorem kb_list_bool : kitB "list" "bool" = some false := by decide +kernel
theorem kb_list_str : kitB "list" "str" = some false := by decide +kernel
theorem kb_list_dict : kitB "list" "dict" = some false := by decide +kernel
theorem kb_list_list : kitB "list" "list" = some true := by decide +kernel
theorem kb_list_tuple : kitB "list" "tuple" = some false := by decide +kernel
theorem kb_dict_int : kitB "dict" "int" = some false := by decide +kernel
theorem kb_dict_bool : kitB "dict" "bool" = some false := by decide +kernel
theorem kb_dict_str : kitB "dict" "str" = some false := by decide +kernel
theorem kb_dict_dict : kitB "dict" "dict" = some true := by decide +kernel
theorem kb_dict_list : kitB "dict" "list" = some false := by decide +kernel
theorem kb_dict_tuple : kitB "dict" "tuple" = some false := by decide +kernel
theorem i_isi {K : PySem.W.Frag} {H : Hp} {Q : VK} {x : V} {t n : String} {b : Bool} (ty : TyX K H x (.type t)) (e : kitB t n = some b) (q : Q (.bl b) H) : rIsi K [x, .ty n] H Q := ⟨x, .ty n, .type t, .type n, b, rfl, .ty n, ty, kit_ty e, q⟩
end Me
set_option maxHeartbeats 8000000
namespace Me
open PySem L2
abbrev PP : Program := PySem.Challenge.rw_roomleft_k04_choices_and_rows_refused_or.prog
structure DA where
  f : Addr
  fd : FuncData
/-- a def of the text -/
structure Df (K : PySem.W.Frag) (mg : Str → Option Value) (x : Str) (st : Stmt) (ps : List Str) (d : DA) : Prop where
  fn : FunD K x x (defArgs st) (defBody st) (defScope st) [] [] d.f d.fd
  mg : mg x = some (.ref d.f)
  b : Binds K d.fd ps []
theorem Df.kp {K : PySem.W.Frag} {mg : Str → Option Value} {x : Str} {st : Stmt} {ps : List Str} {d : DA} (h : Df K mg x st ps d) : PySem.W.keepIn K (.ref d.f) = true := h.fn.kp
theorem ok0 {P : Program} {w : World} {K : PySem.W.Frag} {mg : Str → Option Value} {base : Heap} {x qual : Str} {params : Arguments} {body : List Stmt} {scope : Scope} {dv : List V} {f : Addr} {fd : FuncData} {N ps : List Str} {k : Nat} {sp : Sp} (F : FunD K x qual params body scope dv [] f fd) (S : FnScope N ps scope) (len : ∀ vs H Q E, sp vs H Q E → vs.length = ps.length)
    (go : ∀ (cdv : Value) (A : Around) (outer : List Env) (s : Shared) (H : Hp) (vs : List V) (Q : VK) (E : XK), Room k (A.deeper (PyProof.Rows.envOfC qual scope s.heap.objs.size f cdv)) → sp vs H Q E →
      ∃ t, PSs (cxOf CX0 P w K mg base N qual scope f cdv A outer s H E).nox body t ∧ t { nx := fun _ H' => Q .non H', rt := Q } (start N vs) H) : FnOk P w K mg base CX0 (k + 1) f fd ps sp := by
  refine F.ok S len fun cdv A outer s H vs Q E hr h => ?_
  obtain ⟨t, h1, q⟩ := go cdv A outer s H vs Q E hr h
  exact ⟨t, h1.nox, q⟩
theorem Df.ok {P : Program} {w : World} {K : PySem.W.Frag} {mg : Str → Option Value} {base : Heap} {x : Str} {st : Stmt} {ps ps' N : List Str} {d : DA} {k : Nat} {sp : Sp} (D : Df K mg x st ps' d) (S : FnScope N ps (defScope st)) (len : ∀ vs H Q E, sp vs H Q E → vs.length = ps.length)
    (go : ∀ (cdv : Value) (A : Around) (outer : List Env) (s : Shared) (H : Hp) (vs : List V) (Q : VK) (E : XK), Room k (A.deeper (PyProof.Rows.envOfC x (defScope st) s.heap.objs.size d.f cdv)) → sp vs H Q E →
      ∃ t, PSs (cxOf CX0 P w K mg base N x (defScope st) d.f cdv A outer s H E).nox (defBody st) t ∧ t { nx := fun _ H' => Q .non H', rt := Q } (start N vs) H) : FnOk P w K mg base CX0 (k + 1) d.f d.fd ps sp := ok0 D.fn S len go
theorem Df.okX {P : Program} {w : World} {K : PySem.W.Frag} {mg : Str → Option Value} {base : Heap} {x : Str} {st : Stmt} {ps ps' N : List Str} {d : DA} {k : Nat} {sp : Sp} (D : Df K mg x st ps' d) (S : FnScope N ps (defScope st)) (len : ∀ vs H Q E, sp vs H Q E → vs.length = ps.length)
    (go : ∀ (cdv : Value) (A : Around) (outer : List Env) (s : Shared) (H : Hp) (vs : List V) (Q : VK) (E : XK), Room k (A.deeper (PyProof.Rows.envOfC x (defScope st) s.heap.objs.size d.f cdv)) → sp vs H Q E →
      ∃ t, PSs (cxOf (L2.CX P w) P w K mg base N x (defScope st) d.f cdv A outer s H E) (defBody st) t ∧ t { nx := fun _ H' => Q .non H', rt := Q } (start N vs) H) : FnOk P w K mg base (L2.CX P w) (k + 1) d.f d.fd ps sp := D.fn.ok S len go
/-! ### BadKind(part) -/
def spI1 (C : Addr) (f : Str) : Sp := fun vs H Q _ => ∃ (a : Addr) (y : V), vs = [.ref a, y] ∧ H a = some (exo a C none) ∧ ∀ dx, H dx = none → dx ≠ a → Q .non (upd (upd H dx (exd dx [(f, y)])) a (exo a C (some dx)))
structure BadT (K : PySem.W.Frag) (mg : Str → Option Value) (C : Addr) (I : DA) : Prop where
  ox : OexC K C
  gl : mg "BadKind" = some (.ref C)
  xf : XfC K C
  ex : PySem.W.exmOne K (.ref C) (.ref C) = some true
  no : PySem.W.findIn K (.ref C) "part" = some none
  ini : PySem.W.findIn K (.ref C) "__init__" = some (some (.ref I.f))
  ti : PySem.W.typeIn K (.ref I.f) = some (.type "function")
  fn : FunD K "__init__" "BadKind.__init__" (defArgs (inClass (top 8) 0)) (defBody (inClass (top 8) 0)) (defScope (inClass (top 8) 0)) [] [] I.f I.fd
  b : Binds K I.fd ["self", "part"] []
theorem PS.imp {X : Cx} {st : Stmt} {t t' : TS} (h : PS X st t) (i : ∀ D σ H, t' D σ H → t D σ H) : PS X st t' := ⟨fun pins s σ H D I q => h.run pins s σ H D I (i D σ H q)⟩
theorem ne_none {H : Hp} {a b : Addr} {o : HO} (h' : H a = none) (h : H b = some o) : b ≠ a := ne_of_none h h'
theorem heap1 {H : Hp} {a dx : Addr} {o1 o2 o3 o : HO} (ha : H a = none) (hd : dx ≠ a) : upd (del (upd (upd (upd H a o1) dx o2) a o3) a) dx o = upd H dx o := by
  funext b
  by_cases h1 : b = dx
  · subst h1; rw [upd_same, upd_same]
  · rw [upd_ne h1, upd_ne h1]
    by_cases h2 : b = a
    · subst h2; rw [del_same, ha]
    · rw [del_ne h2, upd_ne h2, upd_ne h1, upd_ne h2]
/-- BadKind(z) is on its way -/
def badW (C : Addr) (z : Str) (W : Value → Option Addr → Hp → Prop) (H : Hp) : Prop := ∀ d, H d = none → W (.ref C) (some d) (upd H d (.xd [("part", .str z)]))
def tBad (C : Addr) (z : Str) (W : WX) : TS := fun _ σ H => badW C z (fun c d H' => W c d σ H') H
section
variable {P : Program} {w : World} {K : PySem.W.Frag} {mg : Str → Option Value} {base : Heap} {C : Addr} {I : DA}
theorem ok_bad (B : BadT K mg C I) : FnOk P w K mg base CX0 1 I.f I.fd ["self", "part"] (spI1 C "part") := by
  refine ok0 B.fn (⟨rfl, rfl, rfl, by decide +kernel, rfl, by decide +kernel, by decide +kernel⟩ : FnScope ["self", "part"] ["self", "part"] _) (fun vs H Q E h => ?_) (fun cdv A outer s H vs Q E' hr h => ?_)
  · obtain ⟨a, y, rfl, _⟩ := h
    rfl
  · obtain ⟨a, y, rfl, e, k⟩ := h
    refine ⟨_, pss_one (ps_ost (pv 0) (pv 1)), ?_⟩
    exact ⟨_, rfl, _, rfl, a, C, rfl, B.ox, B.no, .inl ⟨e, fun dx n ne => k dx n ne⟩⟩
theorem ps_bad {X : Cx} {z : Str} {W : WX} {p p2 pos pos2 : Pos} {j : Nat} (B : BadT X.K X.mg C I) (hc : X.calm = true) (hr : Room 2 X.A) (tk : Takes X W) (hg : Gl X "BadKind" := by rfl)
    (hs : starEach [.Constant (.str z) j p2] X.env = [(false, eval (.Constant (.str z) j p2) X.env)] := by rfl) :
    PS X (.Raise (some (.Call (.Name "BadKind" p) [.Constant (.str z) j p2] [] pos)) none pos2) (tBad C z W) := by
  refine PS.imp (ps_raise hc tk (pmk_oex (dvs := []) B.ox B.ini B.ti (ok_bad B) hr B.b .nil pass0 hg B.gl (pa_cons pe_str pa_nil hs) (by decide) hs rfl)) fun D σ H h => ?_
  refine ⟨by show 1 ≤ 1000; decide, fun a na => ⟨a, .str z, rfl, upd_same, fun dx hd ne => ⟨rfl, dx, [("part", .str z)], ?_, ?_, ?_, ?_⟩⟩⟩
  · exact upd_same
  · rw [upd_ne ne, upd_same]
  · rw [upd_ne ne] at hd; exact hd
  · rw [heap1 na ne]
    rw [upd_ne ne] at hd
    exact h dx hd
end
/-! ### the classes of kinds -/
def kn (i : Nat) : Str := (kcs.getD i ("", [], false)).1
structure Kc (K : PySem.W.Frag) (mg : Str → Option Value) (C : Nat → Addr) (E : Nat → DA) (i : Nat) : Prop where
  gl : mg (kn i) = some (.ref (C i))
  cl : Cls K (C i)
  mks : PySem.W.makesIn K (C i) = true
  kp : PySem.W.keepIn K (.ref (C i)) = true
  cc : PySem.W.findIn K (.ref (C i)) "__class__" = some (some (.builtin "object.__class__"))
  cm : PySem.W.mroIn K (C i) (.type "object") = some true
  no : ∀ f ∈ allK, NoAttr K (C i) f
  eqA : PySem.W.findIn K (.ref (C i)) "__eq__" = some (some (.ref (E i).f))
  eqF : PySem.W.isFn K (.ref (E i).f) = true
  kt : ∀ j, j < 11 → PySem.W.kitOne K (.ref (C i)) (.ref (C j)) = some (decide (i = j))
  kT : ∀ t ∈ tys, PySem.W.kitOne K (.ref (C i)) (.type t) = some false
  tK : ∀ t ∈ tys, PySem.W.kitOne K (.type t) (.ref (C i)) = some false
  sp : PySem.W.specialIn K (.builtin "object.__class__") "__get__" = some (some (.builtin "getset_descriptor.__get__"))
  tk : PySem.W.takesIn K (.builtin "object.__class__") = some true
theorem Kc.ty {K : PySem.W.Frag} {mg : Str → Option Value} {C : Nat → Addr} {E : Nat → DA} {i : Nat} (k : Kc K mg C E i) {H : Hp} {a dx : Addr} {fs : List (Str × V)} (h : H a = some (.ins (C i) dx fs)) : TyX K H (.ref a) (.ref (C i)) := .base (.ins h k.cl k.cc k.sp k.tk k.cm)
/-- a call of a class whose __init__ may raise, in a try's body or a def that lets the error out: the wish at all slots -/
theorem passW {X : Cx} {W : WX} (tk : Takes X W) : Passes (L2.CX X.prog X.w) X (fun cls d H => ∀ σ, σ.length = X.N.length → W cls d σ H) := by
  intro pins σ H s e s' I c
  exact tk e s' (XE.of_call I (fun _ _ _ h => h σ I.len) c)
theorem passF {X : Cx} : Passes (L2.CX X.prog X.w) X E0 := passL
/-- C(), no __init__ of its own -/
def tMk0 (C : Addr) : TE := fun _ H Q => ∀ x dx, H x = none → H dx = none → dx ≠ x → Q (.ref x) (upd (upd H dx (.own x)) x (.ins C dx []))
theorem pe_mk0 {X : Cx} {C : Addr} {x : Str} {p pos : Pos} (mk : PySem.W.makesIn X.K C = true) (ini : PySem.W.findIn X.K (.ref C) "__init__" = some (some (.builtin "object.__init__"))) (kp : PySem.W.keepIn X.K (.ref C) = true) (hm : X.mg x = some (.ref C)) (hg : Gl X x := by rfl)
    (hdb : (x == ("__debug__" : Str)) = false := by decide) : PE X (.Call (.Name x p) [] [] pos) (tMk0 C) := by
  refine ⟨fun pins s σ H Q I h => ?_⟩
  refine wpAny_Call_Name_kw (ld_glob I hg hm (PySem.W.callWith_K0 I.kIn kp ?_) hdb)
  show wpAny _ _ (call (.ref C) []) _ _ _
  have hq := h (s.heap.objs.size + 1) s.heap.objs.size (I.hok.fresh (Nat.le_succ _)) (I.hok.fresh (Nat.le_refl _)) (Nat.ne_of_lt (Nat.lt_succ_self _))
  have I2 := Inv.made (C := C) I
  have Y := PySem.W.makes_of (M := model X.prog X.w) I.kIn mk
  have old : ∀ b o, s.heap.get? b = some o → ((s.heap.push PySem.W.emptyDict).push (PySem.W.instObj C s.heap.objs.size)).get? b = some o := fun b o e => Heap.get?_push_of_some _ (Heap.get?_push_of_some _ e)
  have here : ((s.heap.push PySem.W.emptyDict).push (PySem.W.instObj C s.heap.objs.size)).get? (s.heap.objs.size + 1) = some (PySem.W.instObj C s.heap.objs.size) := by
    have z := Heap.get?_push_size (s.heap.push PySem.W.emptyDict) (o := PySem.W.instObj C s.heap.objs.size) rfl
    rwa [Heap.size_push] at z
  refine wpAny_call (make_map0 I.kIn mk ini (fun self => PySem.W.Looks.of_pure (PySem.W.oi_bind self)) ?_)
  have t1 : PySem.W.Looks (model X.prog X.w) ((s.heap.push PySem.W.emptyDict).push (PySem.W.instObj C s.heap.objs.size)) (isInstance (.ref (s.heap.objs.size + 1)) (.type "object")) true :=
    ((PySem.W.Looks.ld here).andThen .now).andThen (Y.top.keeps old)
  refine codeAny_call_builtin PySem.W.oi_plain PySem.W.entry_oi (@PySem.W.check_slot (model X.prog X.w) _ _ _ "object.__init__" "object" "__init__" (.ref (s.heap.objs.size + 1)) [] [] _ PySem.W.oi_kind PySem.W.oi_split t1 (PySem.W.oi_args _) ?_)
  rw [PySem.W.oi_run]
  exact wpAny_pure ⟨rfl, ⟨V.ref (s.heap.objs.size + 1), _, I2, rfl, hq⟩⟩
end Me
local macro_rules | `(tactic| walk_at "kb") => `(tactic| first | with_reducible exact Me.kb_NoneType_int | with_reducible exact Me.kb_NoneType_bool | with_reducible exact Me.kb_NoneType_str | with_reducible exact Me.kb_NoneType_dict | with_reducible exact Me.kb_NoneType_list | with_reducible exact Me.kb_NoneType_tuple | with_reducible exact Me.kb_bool_int | with_reducible exact Me.kb_bool_bool | with_reducible exact Me.kb_bool_str | with_reducible exact Me.kb_bool_dict | with_reducible exact Me.kb_bool_list | with_reducible exact Me.kb_bool_tuple | with_reducible exact Me.kb_int_int | with_reducible exact Me.kb_int_bool | with_reducible exact Me.kb_int_str | with_reducible exact Me.kb_int_dict | with_reducible exact Me.kb_int_list | with_reducible exact Me.kb_int_tuple | with_reducible exact Me.kb_str_int | with_reducible exact Me.kb_str_bool | with_reducible exact Me.kb_str_str | with_reducible exact Me.kb_str_dict | with_reducible exact Me.kb_str_list | with_reducible exact Me.kb_str_tuple | with_reducible exact Me.kb_tuple_int | with_reducible exact Me.kb_tuple_bool | with_reducible exact Me.kb_tuple_str | with_reducible exact Me.kb_tuple_dict | with_reducible exact Me.kb_tuple_list | with_reducible exact Me.kb_tuple_tuple | with_reducible exact Me.kb_list_int | with_reducible exact Me.kb_list_bool | with_reducible exact Me.kb_list_str | with_reducible exact Me.kb_list_dict | with_reducible exact Me.kb_list_list | with_reducible exact Me.kb_list_tuple | with_reducible exact Me.kb_dict_int | with_reducible exact Me.kb_dict_bool | with_reducible exact Me.kb_dict_str | with_reducible exact Me.kb_dict_dict | with_reducible exact Me.kb_dict_list | with_reducible exact Me.kb_dict_tuple)
local macro_rules | `(tactic| walk_at "hp") => `(tactic| first | with_reducible assumption | with_reducible exact L2.upd_same | ((with_reducible refine' Me.upd_get ?n ?h); (case h => walk_at "hp"); (case n => walk_at "ne")) | ((with_reducible refine' Me.Went.get ?w ?n ?h); (case w => with_reducible assumption); (case h => walk_at "hp"); (case n => walk_at "ne")))
local macro_rules | `(tactic| walk_at "ne") => `(tactic| first | with_reducible assumption | ((with_reducible refine Ne.symm ?_); with_reducible assumption) | ((with_reducible refine' Me.ne_none ?n ?h); (case n => with_reducible assumption); (case h => walk_at "hp")) | ((with_reducible refine' Ne.symm (Me.ne_none ?n ?h)); (case n => with_reducible assumption); (case h => walk_at "hp")))
local macro_rules | `(tactic| walk_at "side") => `(tactic| first | rfl | assumption | omega | decide | (constructor <;> first | rfl | assumption | omega | decide) | (refine ⟨?_, ?_, ?_⟩ <;> first | omega | decide) | (refine Or.inl ⟨?_, ?_⟩ <;> first | omega | decide) | (refine Or.inr ⟨?_, ?_⟩ <;> first | omega | decide))
local macro_rules | `(tactic| walk_at "go1") => `(tactic| first
  | with_reducible refine Me.i_seq ?_ | with_reducible refine Me.i_var rfl ?_ | with_reducible refine Me.i_c ?_ | with_reducible refine Me.i_op ?_ | with_reducible refine Me.i_cons ?_ | with_reducible refine Me.i_nil ?_
  | with_reducible refine Me.i_cb ?_ | with_reducible refine Me.i_call ?_ | with_reducible refine Me.i_asg ?_ | with_reducible refine Me.i_gname ?_ | with_reducible refine Me.i_gsub ?_ | with_reducible refine Me.i_ret ?_ | with_reducible refine Me.i_retN ?_
  | with_reducible refine Me.i_drop ?_ | with_reducible refine Me.i_ifS ?_ | with_reducible refine Me.i_if ?_ | with_reducible refine Me.i_and ?_ | with_reducible refine Me.i_or ?_ | with_reducible refine Me.i_not ?_ | with_reducible refine Me.i_test ?_ | with_reducible refine Me.i_tB ?_
  | with_reducible refine Me.i_andV ?_ | with_reducible refine Me.i_orV ?_ | with_reducible refine Me.i_notV ?_ | with_reducible refine Me.i_next ?_ | with_reducible refine Me.i_un ?_ | with_reducible refine Me.i_lst ?_ | with_reducible refine Me.i_tup ?_ | with_reducible refine Me.i_dnew (fun _ _ => ?_)
  | with_reducible refine Me.i_rI0 ?_ | ((with_reducible refine Me.i_rI ?_ ?_); (walk_at "side")) | with_reducible refine Me.i_rU ?_ | with_reducible refine Me.i_rEq rfl ?_ | with_reducible refine Me.i_rNe rfl ?_
  | ((with_reducible refine' Me.i_ixl ?h ?e ?q); (case h => walk_at "hp"); (case e => rfl)) | ((with_reducible refine' Me.i_ixt ?h ?e ?q); (case h => walk_at "hp"); (case e => rfl)) | ((with_reducible refine' Me.i_setl ?h ?e ?q); (case h => walk_at "hp"); (case e => rfl))
  | with_reducible refine Me.i_bl ?_
  | with_reducible refine L2.iteT ?_ | with_reducible refine L2.iteF ?_
  | ((with_reducible refine' ⟨_, _, rfl, Or.inl (L2.SqL.of ?h), ?q⟩); (case h => walk_at "hp"))
  | ((with_reducible refine' ⟨_, _, rfl, Or.inr (L2.SqT.of ?h), ?q⟩); (case h => walk_at "hp"))
  | ((with_reducible refine' Me.i_isi ?t ?e ?q); (case t => walk_at "ty"); (case e => walk_at "kb"))
  | (with_reducible refine Or.inl ⟨_, rfl, ?_⟩)
  | ((with_reducible refine And.intro (a := List.length _ ≤ PySem.sizeLine) ?s (fun _ _ => ?q)); (case s => (simp only [List.length_cons, List.length_nil]; decide))))
local macro_rules | `(tactic| walk_at "ty") => `(tactic| first | exact L2.TyX.base L2.TyOf.non | exact L2.TyX.base (L2.TyOf.bl _) | exact L2.TyX.base (L2.TyOf.int _) | exact L2.TyX.base (L2.TyOf.str _) | ((refine' L2.TyX.base (L2.TyOf.tup ?h)); (case h => walk_at "hp")) | ((refine' L2.TyX.base (L2.TyOf.lst ?h)); (case h => walk_at "hp")) | ((refine' L2.TyX.base (L2.TyOf.dK ?h)); (case h => walk_at "hp")))
local macro_rules | `(tactic| walk_at "go") => `(tactic| repeat (walk_at "go1"))
set_option maxHeartbeats 8000000
namespace Me
open PySem L2


structure Ad where
  C : Nat → Addr
  I : Nat → DA
  E : Nat → DA
  bad : Addr
  badI : DA
  is_int : DA
  is_int_within : DA
  is_name : DA
  is_bits : DA
  is_word : DA
  is_simple : DA
  check_word_and_name : DA
  are_ways : DA
  are_parts : DA
  have_unlike_names : DA
  are_apart : DA
  _law_is_int : DA
  _law_same_dict : DA
  _law_same : DA
  _law_start : DA
  _law_pull : DA
  _law_name : DA
  _law_bits : DA
  _law_words : DA
  _law_odd : DA
  _law_object : DA
  _law_rows : DA
  _law_spoil : DA
  _law_one : DA
  _law_plain : DA
  _law_good : DA
  _law_make : DA
  _law_told : DA
  _law_is_right : DA
  _law_kept : DA
  _law_after_change : DA
  law : DA
structure Txt (K : PySem.W.Frag) (mg : Str → Option Value) (a : Ad) : Prop where
  kc : ∀ i, i < 11 → Kc K mg a.C a.E i
  bad : BadT K mg a.bad a.badI
  ini0 : PySem.W.findIn K (.ref (a.C 0)) "__init__" = some (some (.builtin "object.__init__"))
  isinstance : mg "isinstance" = none
  int : mg "int" = none
  bool : mg "bool" = none
  str : mg "str" = none
  dict : mg "dict" = none
  list : mg "list" = none
  tuple : mg "tuple" = none
  len : mg "len" = none
  range : mg "range" = none
  all : mg "all" = none
  any : mg "any" = none
  enumerate : mg "enumerate" = none
  max : mg "max" = none
  is_int : Df K mg "is_int" (top 1) ["thing"] a.is_int
  is_int_within : Df K mg "is_int_within" (top 2) ["thing", "least", "most"] a.is_int_within
  is_name : Df K mg "is_name" (top 3) ["thing"] a.is_name
  is_bits : Df K mg "is_bits" (top 4) ["thing"] a.is_bits
  is_word : Df K mg "is_word" (top 5) ["thing"] a.is_word
  is_simple : Df K mg "is_simple" (top 15) ["thing"] a.is_simple
  check_word_and_name : Df K mg "check_word_and_name" (top 22) ["word", "name"] a.check_word_and_name
  are_ways : Df K mg "are_ways" (top 23) ["thing"] a.are_ways
  are_parts : Df K mg "are_parts" (top 24) ["thing"] a.are_parts
  have_unlike_names : Df K mg "have_unlike_names" (top 25) ["things"] a.have_unlike_names
  are_apart : Df K mg "are_apart" (top 26) ["words"] a.are_apart
  _law_is_int : Df K mg "_law_is_int" (top 28) ["_law_told_here"] a._law_is_int
  _law_same_dict : Df K mg "_law_same_dict" (top 29) ["_law_told_here", "_law_due"] a._law_same_dict
  _law_same : Df K mg "_law_same" (top 30) ["_law_told_here", "_law_due"] a._law_same
  _law_start : Df K mg "_law_start" (top 31) ["_law_script"] a._law_start
  _law_pull : Df K mg "_law_pull" (top 32) ["_law_state", "_law_many"] a._law_pull
  _law_name : Df K mg "_law_name" (top 33) ["_law_state", "_law_taken"] a._law_name
  _law_bits : Df K mg "_law_bits" (top 34) ["_law_state", "_law_many"] a._law_bits
  _law_words : Df K mg "_law_words" (top 35) ["_law_state", "_law_many"] a._law_words
  _law_odd : Df K mg "_law_odd" (top 36) ["_law_state"] a._law_odd
  _law_object : Df K mg "_law_object" (top 37) ["_law_turn"] a._law_object
  _law_rows : Df K mg "_law_rows" (top 38) ["_law_state", "_law_rows_here"] a._law_rows
  _law_spoil : Df K mg "_law_spoil" (top 39) ["_law_state", "_law_plain_here"] a._law_spoil
  _law_one : Df K mg "_law_one" (top 40) ["_law_rows_here", "_law_entry"] a._law_one
  _law_plain : Df K mg "_law_plain" (top 41) ["_law_rows_here", "_law_entry"] a._law_plain
  _law_good : Df K mg "_law_good" (top 42) ["_law_rows_here", "_law_plain_here"] a._law_good
  _law_make : Df K mg "_law_make" (top 43) ["_law_rows_here", "_law_passed"] a._law_make
  _law_told : Df K mg "_law_told" (top 44) ["_law_rows_here", "_law_passed"] a._law_told
  _law_is_right : Df K mg "_law_is_right" (top 45) ["_law_rows_here", "_law_which", "_law_made"] a._law_is_right
  _law_kept : Df K mg "_law_kept" (top 46) ["_law_rows_here", "_law_given", "_law_plain_here", "_law_told_here"] a._law_kept
  _law_after_change : Df K mg "_law_after_change" (top 47) ["_law_rows_here", "_law_given"] a._law_after_change
  law : Df K mg "law" (top 48) ["_law_script"] a.law
  E0 : FunD K "__eq__" "Nothing.__eq__" (defArgs (inClass (top 10) 0)) (defBody (inClass (top 10) 0)) (defScope (inClass (top 10) 0)) [] [] (a.E 0).f (a.E 0).fd
  Eb0 : Binds K (a.E 0).fd ["self", "other"] []
  I1 : FunD K "__init__" "Number.__init__" (defArgs (inClass (top 11) 0)) (defBody (inClass (top 11) 0)) (defScope (inClass (top 11) 0)) [.non] [] (a.I 1).f (a.I 1).fd
  Ib1 : Binds K (a.I 1).fd ["self", "low", "high", "width"] []
  Id1 : Binds K (a.I 1).fd ["self", "low", "high", "width"] [.none]
  mk1 : Mk K (a.C 1) (a.I 1).f
  E1 : FunD K "__eq__" "Number.__eq__" (defArgs (inClass (top 11) 1)) (defBody (inClass (top 11) 1)) (defScope (inClass (top 11) 1)) [] [] (a.E 1).f (a.E 1).fd
  Eb1 : Binds K (a.E 1).fd ["self", "other"] []
  I2 : FunD K "__init__" "Bits.__init__" (defArgs (inClass (top 12) 0)) (defBody (inClass (top 12) 0)) (defScope (inClass (top 12) 0)) [] [] (a.I 2).f (a.I 2).fd
  Ib2 : Binds K (a.I 2).fd ["self", "many"] []
  mk2 : Mk K (a.C 2) (a.I 2).f
  E2 : FunD K "__eq__" "Bits.__eq__" (defArgs (inClass (top 12) 1)) (defBody (inClass (top 12) 1)) (defScope (inClass (top 12) 1)) [] [] (a.E 2).f (a.E 2).fd
  Eb2 : Binds K (a.E 2).fd ["self", "other"] []
  I3 : FunD K "__init__" "Call.__init__" (defArgs (inClass (top 13) 0)) (defBody (inClass (top 13) 0)) (defScope (inClass (top 13) 0)) [] [] (a.I 3).f (a.I 3).fd
  Ib3 : Binds K (a.I 3).fd ["self", "name"] []
  mk3 : Mk K (a.C 3) (a.I 3).f
  E3 : FunD K "__eq__" "Call.__eq__" (defArgs (inClass (top 13) 1)) (defBody (inClass (top 13) 1)) (defScope (inClass (top 13) 1)) [] [] (a.E 3).f (a.E 3).fd
  Eb3 : Binds K (a.E 3).fd ["self", "other"] []
  I4 : FunD K "__init__" "Items.__init__" (defArgs (inClass (top 14) 0)) (defBody (inClass (top 14) 0)) (defScope (inClass (top 14) 0)) [.non] [] (a.I 4).f (a.I 4).fd
  Ib4 : Binds K (a.I 4).fd ["self", "item", "width"] []
  Id4 : Binds K (a.I 4).fd ["self", "item", "width"] [.none]
  mk4 : Mk K (a.C 4) (a.I 4).f
  E4 : FunD K "__eq__" "Items.__eq__" (defArgs (inClass (top 14) 1)) (defBody (inClass (top 14) 1)) (defScope (inClass (top 14) 1)) [] [] (a.E 4).f (a.E 4).fd
  Eb4 : Binds K (a.E 4).fd ["self", "other"] []
  I5 : FunD K "__init__" "Way.__init__" (defArgs (inClass (top 16) 0)) (defBody (inClass (top 16) 0)) (defScope (inClass (top 16) 0)) [] [] (a.I 5).f (a.I 5).fd
  Ib5 : Binds K (a.I 5).fd ["self", "word", "name", "kind"] []
  mk5 : Mk K (a.C 5) (a.I 5).f
  E5 : FunD K "__eq__" "Way.__eq__" (defArgs (inClass (top 16) 1)) (defBody (inClass (top 16) 1)) (defScope (inClass (top 16) 1)) [] [] (a.E 5).f (a.E 5).fd
  Eb5 : Binds K (a.E 5).fd ["self", "other"] []
  I6 : FunD K "__init__" "Door.__init__" (defArgs (inClass (top 17) 0)) (defBody (inClass (top 17) 0)) (defScope (inClass (top 17) 0)) [] [] (a.I 6).f (a.I 6).fd
  Ib6 : Binds K (a.I 6).fd ["self", "word", "name", "kind"] []
  mk6 : Mk K (a.C 6) (a.I 6).f
  E6 : FunD K "__eq__" "Door.__eq__" (defArgs (inClass (top 17) 1)) (defBody (inClass (top 17) 1)) (defScope (inClass (top 17) 1)) [] [] (a.E 6).f (a.E 6).fd
  Eb6 : Binds K (a.E 6).fd ["self", "other"] []
  I7 : FunD K "__init__" "Part.__init__" (defArgs (inClass (top 18) 0)) (defBody (inClass (top 18) 0)) (defScope (inClass (top 18) 0)) [] [] (a.I 7).f (a.I 7).fd
  Ib7 : Binds K (a.I 7).fd ["self", "name", "kind"] []
  mk7 : Mk K (a.C 7) (a.I 7).f
  E7 : FunD K "__eq__" "Part.__eq__" (defArgs (inClass (top 18) 1)) (defBody (inClass (top 18) 1)) (defScope (inClass (top 18) 1)) [] [] (a.E 7).f (a.E 7).fd
  Eb7 : Binds K (a.E 7).fd ["self", "other"] []
  I8 : FunD K "__init__" "Room.__init__" (defArgs (inClass (top 19) 0)) (defBody (inClass (top 19) 0)) (defScope (inClass (top 19) 0)) [] [] (a.I 8).f (a.I 8).fd
  Ib8 : Binds K (a.I 8).fd ["self", "word", "name", "kind"] []
  mk8 : Mk K (a.C 8) (a.I 8).f
  E8 : FunD K "__eq__" "Room.__eq__" (defArgs (inClass (top 19) 1)) (defBody (inClass (top 19) 1)) (defScope (inClass (top 19) 1)) [] [] (a.E 8).f (a.E 8).fd
  Eb8 : Binds K (a.E 8).fd ["self", "other"] []
  I9 : FunD K "__init__" "Choice.__init__" (defArgs (inClass (top 20) 0)) (defBody (inClass (top 20) 0)) (defScope (inClass (top 20) 0)) [] [] (a.I 9).f (a.I 9).fd
  Ib9 : Binds K (a.I 9).fd ["self", "ways"] []
  mk9 : Mk K (a.C 9) (a.I 9).f
  E9 : FunD K "__eq__" "Choice.__eq__" (defArgs (inClass (top 20) 1)) (defBody (inClass (top 20) 1)) (defScope (inClass (top 20) 1)) [] [] (a.E 9).f (a.E 9).fd
  Eb9 : Binds K (a.E 9).fd ["self", "other"] []
  I10 : FunD K "__init__" "Row.__init__" (defArgs (inClass (top 21) 0)) (defBody (inClass (top 21) 0)) (defScope (inClass (top 21) 0)) [] [] (a.I 10).f (a.I 10).fd
  Ib10 : Binds K (a.I 10).fd ["self", "parts"] []
  mk10 : Mk K (a.C 10) (a.I 10).f
  E10 : FunD K "__eq__" "Row.__eq__" (defArgs (inClass (top 21) 1)) (defBody (inClass (top 21) 1)) (defScope (inClass (top 21) 1)) [] [] (a.E 10).f (a.E 10).fd
  Eb10 : Binds K (a.E 10).fd ["self", "other"] []

/-! ### things -/
inductive Th (H : Hp) : V → Prop where
  | non : Th H .non
  | bl (b : Bool) : Th H (.bl b)
  | int (i : Int) : Th H (.int i)
  | str (x : Str) : Th H (.str x)
  | tup {a : Addr} {xs : List V} (h : H a = some (.tup xs)) : Th H (.ref a)
  | lst {a : Addr} {xs : List V} (h : H a = some (.lst xs)) : Th H (.ref a)
  | dK {a : Addr} {kvs : List (Key × V)} (h : H a = some (.dK kvs)) : Th H (.ref a)
theorem Th.same {H H' : Hp} {v : V} (h : Th H v) (s : Same H H') : Th H' v := by
  cases h with
  | non => exact .non
  | bl b => exact .bl b
  | int i => exact .int i
  | str x => exact .str x
  | tup h => exact .tup (s _ _ h)
  | lst h => exact .lst (s _ _ h)
  | dK h => exact .dK (s _ _ h)
def isI : V → Bool
  | .int _ => true
  | _ => false
def withinV : V → Int → Int → Bool
  | .int i, l, m => decide (l ≤ i) && decide (i ≤ m)
  | _, _, _ => false
theorem i_yes {c : Bool} {A B : Prop} (h : c = true) (q : A) : if c = true then A else B := by rw [if_pos h]; exact q
theorem i_no {c : Bool} {A B : Prop} (h : c = false) (q : B) : if c = true then A else B := by rw [h, if_neg Bool.false_ne_true]; exact q
section
variable {P : Program} {w : World} {K : PySem.W.Frag} {mg : Str → Option Value} {base : Heap} {a : Ad}
def spIsInt : Sp := fun vs H Q _ => ∃ x, vs = [x] ∧ Th H x ∧ Q (.bl (isI x)) H
theorem ok_is_int (T : Txt K mg a) : FnOk P w K mg base CX0 1 a.is_int.f a.is_int.fd ["thing"] spIsInt := by
  have sc : FnScope ["thing"] ["thing"] (defScope (top 1)) := ⟨rfl, rfl, rfl, by decide +kernel, rfl, by decide +kernel, by decide +kernel⟩
  refine T.is_int.ok sc (fun vs H Q E h => ?_) (fun cdv A outer s H vs Q E hr h => ?_)
  · obtain ⟨x, rfl, _⟩ := h; rfl
  · obtain ⟨x, rfl, hx, k⟩ := h
    refine ⟨_, (pss_one (ps_ret (pe_and (pe_callB call_isi (by rfl) T.isinstance (by decide +kernel) (pa_cons (pv 0) (pa_cons (pe_bltn (v := .ty "int") (by rfl) T.int (by decide +kernel) rfl) pa_nil))) (pe_one (pe_not (pe_callB call_isi (by rfl) T.isinstance (by decide +kernel) (pa_cons (pv 0) (pa_cons (pe_bltn (v := .ty "bool") (by rfl) T.bool (by decide +kernel) rfl) pa_nil)))))))), ?_⟩
    cases hx <;> (walk_at "go"; exact k)
theorem ok_law_is_int (T : Txt K mg a) : FnOk P w K mg base CX0 1 a._law_is_int.f a._law_is_int.fd ["_law_told_here"] spIsInt := by
  have sc : FnScope ["_law_told_here"] ["_law_told_here"] (defScope (top 28)) := ⟨rfl, rfl, rfl, by decide +kernel, rfl, by decide +kernel, by decide +kernel⟩
  refine T._law_is_int.ok sc (fun vs H Q E h => ?_) (fun cdv A outer s H vs Q E hr h => ?_)
  · obtain ⟨x, rfl, _⟩ := h; rfl
  · obtain ⟨x, rfl, hx, k⟩ := h
    refine ⟨_, (pss_one (ps_ret (pe_and (pe_callB call_isi (by rfl) T.isinstance (by decide +kernel) (pa_cons (pv 0) (pa_cons (pe_bltn (v := .ty "int") (by rfl) T.int (by decide +kernel) rfl) pa_nil))) (pe_one (pe_not (pe_callB call_isi (by rfl) T.isinstance (by decide +kernel) (pa_cons (pv 0) (pa_cons (pe_bltn (v := .ty "bool") (by rfl) T.bool (by decide +kernel) rfl) pa_nil)))))))), ?_⟩
    cases hx <;> (walk_at "go"; exact k)
def spWithin : Sp := fun vs H Q _ => ∃ (x : V) (l m : Int), vs = [x, .int l, .int m] ∧ Th H x ∧ Q (.bl (withinV x l m)) H
theorem ok_within (T : Txt K mg a) : FnOk P w K mg base CX0 2 a.is_int_within.f a.is_int_within.fd ["thing", "least", "most"] spWithin := by
  have G_is_int : FnOk P w K mg base CX0 1 a.is_int.f a.is_int.fd ["thing"] spIsInt := ok_is_int T
  have sc : FnScope ["thing", "least", "most"] ["thing", "least", "most"] (defScope (top 2)) := ⟨rfl, rfl, rfl, by decide +kernel, rfl, by decide +kernel, by decide +kernel⟩
  refine T.is_int_within.ok sc (fun vs H Q E h => ?_) (fun cdv A outer s H vs Q E hr h => ?_)
  · obtain ⟨x, l, m, rfl, _⟩ := h; rfl
  · obtain ⟨x, l, m, rfl, hx, k⟩ := h
    refine ⟨_, (pss_one (ps_ret (pe_and (pe_call G_is_int (hr.mono (by first | decide | omega)) rfl T.is_int.mg T.is_int.kp T.is_int.b .nil pass0 (pa_cons (pv 0) pa_nil)) (pe_one (pe_chain op_le op_le (pv 1) (pv 0) (pv 2)))))), ?_⟩
    walk_at "go"
    refine ⟨x, rfl, hx, _, rfl, ?_⟩
    cases hx with
    | int i =>
      refine i_yes rfl ⟨_, rfl, _, rfl, _, _, rfl, rfl, _, rfl, ?_⟩
      refine i_itd (fun h1 => ?_) (fun h1 => ?_)
      · refine ⟨_, rfl, _, _, rfl, rfl, ?_⟩
        have e : withinV (.int i) l m = decide (i ≤ m) := by
          show (decide (l ≤ i) && decide (i ≤ m)) = _
          rw [decide_eq_true h1]; rfl
        rw [e] at k
        exact k
      · have e : withinV (.int i) l m = false := by
          show (decide (l ≤ i) && decide (i ≤ m)) = _
          rw [decide_eq_false h1]; rfl
        rw [e] at k
        exact k
    | _ => exact i_no rfl k
end
end Me
set_option maxHeartbeats 8000000
namespace Me
open PySem L2


/-- a comprehension over the signs of a text -/
theorem lc_its {x : Str} {g : TG} {tt : TT} {te : TE} {vs : List Nat} {σ : L2.St} {H1 : Hp} {D : Addr} {Qd : Hp → Prop} (Pv : Nat → Hp → Prop) (h0 : Pv 0 (upd H1 D (.lst [])))
    (hs : ∀ i c H, x.cps[i]? = some c → Pv i H → g (.str ⟨#[c]⟩) (wipe σ vs) H fun σ2 H2 => wipe σ2 vs = wipe σ vs ∧ tt σ2 H2 fun b H3 =>
      if b = true then te σ2 H3 fun y H4 => ∃ acc, H4 D = some (.lst acc) ∧ acc.length < sizeLine ∧ Pv (i + 1) (upd H4 D (.lst (acc ++ [y]))) else Pv (i + 1) H3) (hd : ∀ H, Pv x.cps.size H → Qd H) :
    ∃ W : Nat → Nat → Hp → Prop, (∃ m, W 0 m (upd H1 D (.lst []))) ∧ ∀ i m H, W i m H →
      ((Its x).stop i H ∧ Qd H) ∨ ((Its x).go i H ∧ ∃ Nx : Hp → Prop, (∀ H', Nx H' → ∃ m', m' < m ∧ W (i + 1) m' H') ∧ ∀ v H', (Its x).yld i H v H' → g v (wipe σ vs) H' fun σ2 H2 => wipe σ2 vs = wipe σ vs ∧ tt σ2 H2 fun b H3 =>
        if b = true then te σ2 H3 fun y H4 => ∃ acc, H4 D = some (.lst acc) ∧ acc.length < sizeLine ∧ Nx (upd H4 D (.lst (acc ++ [y]))) else Nx H3) := by
  refine ⟨fun i m H => m = x.cps.size - i ∧ i ≤ x.cps.size ∧ Pv i H, ⟨x.cps.size, by simp, Nat.zero_le _, h0⟩, ?_⟩
  rintro i m H ⟨rfl, hi, p⟩
  by_cases lt : i < x.cps.size
  · refine .inr ⟨lt, Pv (i + 1), fun H' p' => ⟨x.cps.size - (i + 1), by omega, rfl, lt, p'⟩, fun v H' y => ?_⟩
    obtain ⟨rfl, c, hc, rfl⟩ := y
    exact hs i c _ hc p
  · have e : i = x.cps.size := by omega
    subst e
    exact .inl ⟨Nat.le_refl _, hd H p⟩
def letterB (c : Nat) : Bool := decide (97 ≤ c) && decide (c ≤ 122)
def nameS (z : Str) : Bool := (decide (1 ≤ z.length) && decide (z.length ≤ 8)) && z.cps.toList.all letterB
def nameV : V → Bool
  | .str z => nameS z
  | _ => false
theorem le_a (c : Nat) : (!decide (([c] : List Nat) < [97])) = decide (97 ≤ c) := by
  by_cases h : 97 ≤ c
  · have n : ¬ ([c] : List Nat) < [97] := by simp [List.cons_lt_cons_iff]; omega
    rw [decide_eq_true h, decide_eq_false n]; rfl
  · have n : ([c] : List Nat) < [97] := by simp [List.cons_lt_cons_iff]; omega
    rw [decide_eq_false h, decide_eq_true n]; rfl
theorem le_z (c : Nat) : (!decide (([122] : List Nat) < [c])) = decide (c ≤ 122) := by
  by_cases h : c ≤ 122
  · have n : ¬ ([122] : List Nat) < [c] := by simp [List.cons_lt_cons_iff]; omega
    rw [decide_eq_true h, decide_eq_false n]; rfl
  · have n : ([122] : List Nat) < [c] := by simp [List.cons_lt_cons_iff]; omega
    rw [decide_eq_false h, decide_eq_true n]; rfl
theorem take_cps {z : Str} {i c : Nat} (h : z.cps[i]? = some c) : z.cps.toList.take (i + 1) = z.cps.toList.take i ++ [c] := by
  have h2 : z.cps.toList[i]? = some c := by rw [Array.getElem?_toList]; exact h
  obtain ⟨lt, e⟩ := List.getElem?_eq_some_iff.mp h2
  rw [← e]
  exact (List.take_append_getElem lt).symm
theorem same_new {H H' : Hp} {p : Addr} {o : HO} (h : Same H H') (n : H' p = none) : Same H (upd H' p o) := fun b u e => by
  have e1 := h b u e
  rw [upd_ne (ne_of_none e1 n)]; exact e1
def lets (z : Str) (i : Nat) : List V := (z.cps.toList.take i).map fun c => V.bl (letterB c)
theorem lets_step {H : Hp} {D : Addr} {z : Str} {i c : Nat} {b : Bool} (hz : z.length ≤ 100) (hc : z.cps[i]? = some c) (hb : b = letterB c) :
    ∃ acc, upd H D (.lst (lets z i)) D = some (.lst acc) ∧ acc.length < sizeLine ∧ upd (upd H D (.lst (lets z i))) D (.lst (acc ++ [V.bl b])) = upd H D (.lst (lets z (i + 1))) := by
  refine ⟨lets z i, upd_same, ?_, ?_⟩
  · have e : (lets z i).length ≤ z.length := by
      show ((z.cps.toList.take i).map _).length ≤ z.cps.size
      rw [List.length_map, List.length_take, Array.length_toList]
      omega
    exact Nat.lt_of_le_of_lt (Nat.le_trans e hz) (by decide)
  · rw [upd_upd]
    have e : lets z (i + 1) = lets z i ++ [V.bl (letterB c)] := by
      show (z.cps.toList.take (i + 1)).map _ = _
      rw [take_cps hc, List.map_append]; rfl
    rw [e, hb]
theorem lets_all {z : Str} : (lets z z.cps.size) = (z.cps.toList.map letterB).map V.bl := by
  show (z.cps.toList.take _).map _ = _
  rw [List.take_of_length_le (by rw [Array.length_toList]; exact Nat.le_refl _), List.map_map]; rfl
section
variable {P : Program} {w : World} {K : PySem.W.Frag} {mg : Str → Option Value} {base : Heap} {a : Ad}
def spIsName (hp : Prop) : Sp := fun vs H Q _ => ∃ x, vs = [x] ∧ Th H x ∧ (∀ z, x = .str z → z.length ≤ 100) ∧ ∀ H', Same H H' → Q (.bl (nameV x)) H'
theorem ok_is_name (T : Txt K mg a) : FnOk P w K mg base CX0 1 a.is_name.f a.is_name.fd ["thing"] (spIsName True) := by
  have sc : FnScope ["thing", "letter"] ["thing"] (defScope (top 3)) := ⟨rfl, rfl, rfl, by decide +kernel, rfl, by decide +kernel, by decide +kernel⟩
  refine T.is_name.ok sc (fun vs H Q E h => ?_) (fun cdv A outer s H vs Q E hr h => ?_)
  · obtain ⟨x, rfl, _⟩ := h; rfl
  · obtain ⟨x, rfl, hx, hz, k⟩ := h
    refine ⟨_, (pss_cons (ps_if (PW.pt (pw_or (pt_not (pt_val (pe_callB call_isi (by rfl) T.isinstance (by decide +kernel) (pa_cons (pv 0) (pa_cons (pe_bltn (v := .ty "str") (by rfl) T.str (by decide +kernel) rfl) pa_nil))))) (pw_or1 (pt_not (pt_chain op_le op_le pe_int (pe_callB call_len_str (by rfl) T.len PySem.boot_len (pa_cons (pv 0) pa_nil)) pe_int)))))
      (pss_one (ps_ret pe_bl))
      pss_nil)
      (pss_one (ps_ret (pe_callB (cr_all rfl) (by rfl) T.all (by decide +kernel) (pa_cons (pe_lc (own := [("letter", 1)]) (g := gName 1) (by rfl) sc.nd (pi_str (pv 0)) (blkOk_by (own := [("letter", 1)]) (N := ["thing", "letter"]) (sc := defScope (top 3)) (by decide +kernel)) (fun _ _ _ _ _ => pg_name (i := 1) sc.nd rfl (Or.inl rfl)) (fun _ _ _ _ _ => pts_nil) (fun _ _ _ _ _ => (by exact (pe_chain op_le_str op_le_str pe_str (pv 1) pe_str)))) pa_nil))))), ?_⟩
    have k0 := k H fun _ _ e => e
    cases hx with
    | str z =>
      have hz := hz z rfl
      walk_at "go"
      refine i_no rfl ?_
      walk_at "go"
      refine ⟨_, rfl, z, rfl, Nat.le_trans hz (by decide), _, _, rfl, rfl, _, rfl, ?_⟩
      have bad : (¬ ((1:Int) ≤ (z.length : Int)) ∨ ¬ ((z.length : Int) ≤ 8)) → nameV (.str z) = false := fun h => by
        show ((decide (1 ≤ z.length) && decide (z.length ≤ 8)) && _) = false
        rcases h with h | h
        · rw [decide_eq_false (by omega)]; rfl
        · rw [decide_eq_false (p := z.length ≤ 8) (by omega), Bool.and_false]; rfl
      refine i_itd (fun h1 => ?_) (fun h1 => ?_)
      · refine ⟨_, _, rfl, rfl, _, rfl, ?_⟩
        refine i_itn (fun h2 => ?_) (fun h2 => ?_)
        · rw [bad (.inr h2)] at k0; walk_at "go"; exact k0
        · walk_at "go"
          refine ⟨_, rfl, z, rfl, fun D nD => ?_⟩
          refine lc_its (Qd := fun H' => ∃ (a : Addr) (bs : List Bool), [V.ref D] = [V.ref a] ∧ SqL K H' a (bs.map V.bl) ∧ Q (.bl (bs.all id)) H') (fun i H' => H' = upd H D (.lst (lets z i))) rfl (fun i c H1 hc e => ?_) (fun H1 e => ?_)
          · subst e
            refine ⟨rfl, ?_⟩
            unfold tYes
            with_reducible refine L2.iteT ?_
            refine ⟨_, rfl, _, _, rfl, rfl, _, rfl, ?_⟩
            refine i_itb (fun h1 => ?_) (fun h1 => ?_)
            · have h1 : decide (97 ≤ c) = true := (le_a c).symm.trans h1
              refine ⟨_, _, rfl, rfl, lets_step hz hc ?_⟩
              refine Eq.trans (le_z c) ?_
              unfold letterB
              rw [h1]; rfl
            · have h1 : decide (97 ≤ c) = false := (le_a c).symm.trans h1
              refine lets_step hz hc ?_
              unfold letterB
              rw [h1]; rfl
          · subst e
            refine ⟨D, z.cps.toList.map letterB, rfl, SqL.of (by rw [upd_same, lets_all]), ?_⟩
            have e : nameV (.str z) = (z.cps.toList.map letterB).all id := by
              show ((decide (1 ≤ z.length) && decide (z.length ≤ 8)) && z.cps.toList.all letterB) = _
              rw [decide_eq_true (by omega), decide_eq_true (p := z.length ≤ 8) (by omega), List.all_map]; rfl
            rw [← e]
            exact k _ (same_new (fun _ _ e => e) nD)
      · rw [bad (.inl h1)] at k0
        refine ⟨_, rfl, i_yes rfl ?_⟩
        walk_at "go"; exact k0
    | _ => (walk_at "go"; refine i_yes rfl ?_; walk_at "go"; exact k0)
end
end Me
set_option maxHeartbeats 8000000
namespace Me
open PySem L2
theorem at_ints {ns : List Int} {i : Int} (h0 : 0 ≤ i) (h1 : i < ((ns.map V.int).length : Int)) : ∃ z, atI (ns.map V.int) i = some (V.int z) := by
  obtain ⟨j, rfl⟩ := Int.eq_ofNat_of_zero_le h0
  have hj : j < ns.length := by rw [List.length_map] at h1; omega
  exact ⟨ns[j], atI_nat (by rw [List.getElem?_map, List.getElem?_eq_getElem hj]; rfl)⟩
theorem st_upd {H : Hp} {p L : Addr} {ns : List Int} {i b c : Int} {o : HO} (e : o = .lst [.ref L, .int i, .int b, .int c]) (n : L ≠ p) (hL : H L = some (.lst (ns.map V.int))) (hn : ns.length ≤ 63) (hi : 0 ≤ i) (hb : 0 ≤ b) (hc : 0 ≤ c) (hd : c < 2147483647) : StAt (upd H p o) p L :=
  ⟨ns, i, b, c, by rw [upd_same, e], by rw [upd_ne n]; exact hL, hn, hi, hb, hc, hd⟩
theorem fm {x m : Int} (h : 0 < m) : 0 ≤ x.fmod m ∧ x.fmod m < m := by
  rw [Int.fmod_eq_emod_of_nonneg _ (by omega)]
  exact ⟨Int.emod_nonneg _ (by omega), Int.emod_lt_of_pos _ h⟩
theorem fd {x m : Int} (hx : 0 ≤ x) (h : 0 < m) : 0 ≤ x.fdiv m := by
  rw [Int.fdiv_eq_ediv_of_nonneg _ (by omega)]
  exact Int.ediv_nonneg hx (by omega)
theorem Went.rfl' {p : Addr} {H : Hp} (h : StOk H p) : Went p H H := ⟨h, fun _ _ _ e => e, fun _ e => e⟩
theorem StAt.keep {p L : Addr} {H H' : Hp} (h : StAt H p L) (k : Same H H') : StAt H' p L := by
  obtain ⟨ns, i, b, c, h1, h2, h3⟩ := h
  exact ⟨ns, i, b, c, k _ _ h1, k _ _ h2, h3⟩
theorem StOk.keep {p : Addr} {H H' : Hp} (h : StOk H p) (k : Same H H') : StOk H' p := h.imp fun _ q => q.keep k
theorem Went.new {p q : Addr} {H H' : Hp} {o : HO} (w : Went p H H') (n : H' q = none) : Went p H (upd H' q o) := by
  have k : Same H' (upd H' q o) := fun b u e => by rw [upd_ne (ne_of_none e n)]; exact e
  exact ⟨w.1.keep k, fun a u ne e => k _ _ (w.2.1 a u ne e), fun L e => (w.2.2 L e).keep k⟩
/-- an object that was not there at first is written -/
theorem Went.wr {p q : Addr} {H H' : Hp} {o : HO} (S : StOk H p) (w : Went p H H') (n : H q = none) (nq : q ≠ p) : Went p H (upd H' q o) := by
  obtain ⟨L, hL⟩ := S
  have h' := w.2.2 L hL
  have nL : L ≠ q := by obtain ⟨_, _, _, _, _, e, _⟩ := hL; exact ne_of_none e n
  refine went_mk hL ?_ fun a u ne e => by rw [upd_ne (ne_of_none e n)]; exact w.2.1 a u ne e
  obtain ⟨ns, i, b, c, h1, h2, h3⟩ := h'
  exact ⟨ns, i, b, c, by rw [upd_ne nq.symm]; exact h1, by rw [upd_ne nL]; exact h2, h3⟩
theorem StOk.ne {H : Hp} {p q : Addr} (S : StOk H p) (n : H q = none) : q ≠ p := by
  obtain ⟨L, _, _, _, _, e, _⟩ := S
  exact fun z => by rw [z, e] at n; cases n
theorem Went.none {p q : Addr} {H H' : Hp} (w : Went p H H') (n : H' q = none) (nq : q ≠ p) : H q = none := by
  cases e : H q with
  | none => rfl
  | some o => rw [w.2.1 q o nq e] at n; cases n
theorem at_mem {xs : List V} {i : Int} (h0 : 0 ≤ i) (h1 : i < (xs.length : Int)) : ∃ v, atI xs i = some v ∧ v ∈ xs := by
  obtain ⟨j, rfl⟩ := Int.eq_ofNat_of_zero_le h0
  have hj : j < xs.length := by omega
  exact ⟨xs[j], atI_nat (List.getElem?_eq_getElem hj), List.getElem_mem hj⟩


section
variable {P : Program} {w : World} {K : PySem.W.Frag} {mg : Str → Option Value} {base : Heap} {a : Ad}
def spPull : Sp := fun vs H Q _ => ∃ (p : Addr) (m : Int), vs = [.ref p, .int m] ∧ StOk H p ∧ 0 < m ∧ m < 1073741824 ∧ ∀ (r : Int) (H' : Hp), 0 ≤ r → r < m → Went p H H' → Q (.int r) H'
theorem ok_pull (T : Txt K mg a) : FnOk P w K mg base CX0 1 a._law_pull.f a._law_pull.fd ["_law_state", "_law_many"] spPull := by
  have sc : FnScope ["_law_state", "_law_many", "_law_cell", "_law_number"] ["_law_state", "_law_many"] (defScope (top 32)) := ⟨rfl, rfl, rfl, by decide +kernel, rfl, by decide +kernel, by decide +kernel⟩
  refine T._law_pull.ok sc (fun vs H Q E h => ?_) (fun cdv A outer s H vs Q E hr h => ?_)
  · obtain ⟨p, m, rfl, _⟩ := h
    rfl
  · obtain ⟨p, m, rfl, S, hm0, hm1, k⟩ := h
    have S0 := S
    obtain ⟨L, SL⟩ := S
    obtain ⟨ns, i, b, c, hp, hL, hn, hi, hb, hc0, hc1⟩ := id SL
    refine ⟨_, (pss_cons (ps_if (PW.pt (pw_and (pt_cmpR op_eq (pe_ix ix_list (pv 0) pe_int (fun _ _ => rfl)) pe_int (nomark _)) (pw_and1 (pt_cmpR op_lt (pe_ix ix_list (pv 0) pe_int (fun _ _ => rfl)) (pe_callB call_len_seq (by rfl) T.len PySem.boot_len (pa_cons (pe_ix ix_list (pv 0) pe_int (fun _ _ => rfl)) pa_nil)) (nomark _)))))
      (pss_cons (ps_set (i := 2) sc.nd rfl (by first | exact Or.inl rfl | exact Or.inr rfl) (pe_ix ix_list (pe_ix ix_list (pv 0) pe_int (fun _ _ => rfl)) (pe_ix ix_list (pv 0) pe_int (fun _ _ => rfl)) (fun _ _ => rfl)))
      (pss_cons (ps_asg (pe_op op_add (pe_ix ix_list (pv 0) pe_int (fun _ _ => rfl)) pe_int) (pg_sub (pv 0) pe_int set_list))
      (pss_one (ps_if (pt_cmpR op_ge (pv 2) (pe_op op_pow pe_int pe_int) (nomark _))
      (pss_one (ps_asg (pv 2) (pg_sub (pv 0) pe_int set_list)))
      (pss_one (ps_asg (pe_op op_mod (pe_callTy call_int1 (by rfl) T.int (by decide +kernel) (pa_cons (pe_op op_add (pe_op op_add (pe_op op_mul (pe_ix ix_list (pv 0) pe_int (fun _ _ => rfl)) pe_int) (pe_op op_mod (pe_callTy call_int1 (by rfl) T.int (by decide +kernel) (pa_cons (pv 2) pa_nil)) pe_int)) pe_int) pa_nil)) pe_int) (pg_sub (pv 0) pe_int set_list)))))))
      pss_nil)
      (pss_cons (ps_if (pt_cmpR op_gt (pe_ix ix_list (pv 0) pe_int (fun _ _ => rfl)) pe_int (nomark _))
      (pss_cons (ps_set (i := 3) sc.nd rfl (by first | exact Or.inl rfl | exact Or.inr rfl) (pe_op op_modN (pe_callTy call_int1 (by rfl) T.int (by decide +kernel) (pa_cons (pe_ix ix_list (pv 0) pe_int (fun _ _ => rfl)) pa_nil)) (pv 1)))
      (pss_cons (ps_asg (pe_op op_fdivN (pe_ix ix_list (pv 0) pe_int (fun _ _ => rfl)) (pv 1)) (pg_sub (pv 0) pe_int set_list))
      (pss_one (ps_ret (pv 3)))))
      pss_nil)
      (pss_cons (ps_asg (pe_op op_mod (pe_callTy call_int1 (by rfl) T.int (by decide +kernel) (pa_cons (pe_op op_add (pe_op op_mul (pe_ix ix_list (pv 0) pe_int (fun _ _ => rfl)) pe_int) pe_int) pa_nil)) pe_int) (pg_sub (pv 0) pe_int set_list))
      (pss_cons (ps_set (i := 3) sc.nd rfl (by first | exact Or.inl rfl | exact Or.inr rfl) (pe_op op_mod (pe_callTy call_int1 (by rfl) T.int (by decide +kernel) (pa_cons (pe_op op_add (pe_op op_mul (pe_ix ix_list (pv 0) pe_int (fun _ _ => rfl)) pe_int) (pe_op op_fdiv (pe_ix ix_list (pv 0) pe_int (fun _ _ => rfl)) pe_int)) pa_nil)) pe_int))
      (pss_one (ps_ret (pe_op op_modN (pe_callTy call_int1 (by rfl) T.int (by decide +kernel) (pa_cons (pe_op op_fdiv (pv 3) pe_int) pa_nil)) (pv 1)))))))), ?_⟩
    have nL : L ≠ p := ne_of hL hp (by intro z; injection z with z; cases ns <;> cases z)
    have nL' : p ≠ L := nL.symm
    have hmn : m ≠ 0 ∧ m.natAbs < 1073741824 := ⟨by omega, by omega⟩
    have hmz : m ≠ 0 := hmn.1
    walk_at "go"
    refine i_itei (fun hb0 => ?_) (fun hb0 => ?_)
    · walk_at "go"
      refine i_itd (fun hlt => ?_) (fun hlt => ?_)
      · obtain ⟨z, hz⟩ := at_ints hi hlt
        walk_at "go"
        refine i_ixl hL hz ?_
        walk_at "go"
        have e18 : (10 : Int) ^ Int.toNat 18 = 1000000000000000000 := by decide
        refine i_itd (fun hz => ?_) (fun hz => ?_)
        · rw [e18] at hz
          walk_at "go"
          refine i_itd (fun h1 => ?_) (fun h1 => ?_)
          · walk_at "go"
            refine k _ _ (fm hm0).1 (fm hm0).2 (went_mk SL (st_upd (i := i + 1) (b := z.fdiv m) (c := c) rfl nL (by walk_at "hp") hn (by omega) (Me.fd (by omega) hm0) hc0 hc1) fun a o n h => by simp only [upd_ne n]; exact h)
          · exact absurd (by omega : 0 < z) h1
        · walk_at "go"
          refine i_itd (fun h1 => ?_) (fun h1 => ?_)
          · exact absurd h1 (by omega)
          · walk_at "go"
            refine k _ _ (fm hm0).1 (fm hm0).2 (went_mk SL (st_upd (i := i + 1) (b := b) rfl nL (by walk_at "hp") hn (by omega) hb (by omega) (by omega)) fun a o n h => by simp only [upd_ne n]; exact h)
      · walk_at "go"
        refine i_itd (fun h1 => ?_) (fun h1 => ?_)
        · exact absurd h1 (by omega)
        · walk_at "go"
          refine k _ _ (fm hm0).1 (fm hm0).2 (went_mk SL (st_upd (i := i) (b := b) rfl nL (by walk_at "hp") hn (by omega) hb (by omega) (by omega)) fun a o n h => by simp only [upd_ne n]; exact h)
    · walk_at "go"
      refine i_itd (fun h1 => ?_) (fun h1 => ?_)
      · walk_at "go"
        refine k _ _ (fm hm0).1 (fm hm0).2 (went_mk SL (st_upd (i := i) (b := b.fdiv m) (c := c) rfl nL (by walk_at "hp") hn (by omega) (Me.fd (by omega) hm0) hc0 hc1) fun a o n h => by simp only [upd_ne n]; exact h)
      · exact absurd (by omega : 0 < b) h1
def spStart (K : PySem.W.Frag) : Sp := fun vs H Q _ => ∃ (s : Addr) (ns : List Int), vs = [.ref s] ∧ SqL K H s (ns.map V.int) ∧ ns.length ≤ 63 ∧ ∀ (p : Addr) (H' : Hp), H p = none → StOk H' p → Same H H' → Q (.ref p) H'
theorem ok_start (T : Txt K mg a) : FnOk P w K mg base CX0 1 a._law_start.f a._law_start.fd ["_law_script"] (spStart K) := by
  have sc : FnScope ["_law_script"] ["_law_script"] (defScope (top 31)) := ⟨rfl, rfl, rfl, by decide +kernel, rfl, by decide +kernel, by decide +kernel⟩
  refine T._law_start.ok sc (fun vs H Q E h => ?_) (fun cdv A outer s H vs Q E hr h => ?_)
  · obtain ⟨p, m, rfl, _⟩ := h
    rfl
  · obtain ⟨sa, ns, rfl, hS, hn, k⟩ := h
    refine ⟨_, (pss_one (ps_ret (pe_lst (pa_cons (pe_callTy call_list_of (by rfl) T.list (by decide +kernel) (pa_cons (pv 0) pa_nil)) (pa_cons pe_int (pa_cons pe_int (pa_cons pe_int pa_nil))))))), ?_⟩
    walk_at "go"
    refine ⟨sa, _, rfl, .inl hS, fun L nL => ?_⟩
    walk_at "go"
    rename_i p np
    obtain ⟨npL, npH⟩ := upd_none np
    refine k p _ npH ⟨L, ns, 0, 0, 1234577, upd_same, ?_, hn, by omega, by omega, by omega, by omega⟩ fun b o e => ?_
    · walk_at "hp"
    · rw [upd_ne (ne_of_none e npH), upd_ne (ne_of_none e nL)]; exact e
end
end Me
set_option maxHeartbeats 8000000
namespace Me
open PySem L2


/-- a thing that the script draws -/
inductive Odd (p : Addr) (H : Hp) : V → Prop where
  | non : Odd p H .non
  | bl (b : Bool) : Odd p H (.bl b)
  | int (i : Int) : Odd p H (.int i)
  | str (z : Str) (hz : z.length ≤ 100) : Odd p H (.str z)
  | tup {q : Addr} {n : Nat} (ne : q ≠ p) (h : H q = some (.tup (List.replicate n (.int 1)))) (hn : n ≤ 1) : Odd p H (.ref q)
  | lst {q : Addr} {n : Nat} (ne : q ≠ p) (h : H q = some (.lst (List.replicate n (.int 2)))) (hn : n ≤ 1) : Odd p H (.ref q)
  | dK {q : Addr} {kvs : List (Key × V)} (ne : q ≠ p) (h : H q = some (.dK kvs)) : Odd p H (.ref q)
theorem Odd.went {p : Addr} {H H' : Hp} {v : V} (o : Odd p H v) (w : Went p H H') : Odd p H' v := by
  cases o with
  | non => exact .non
  | bl b => exact .bl b
  | int i => exact .int i
  | str x hz => exact .str x hz
  | tup ne h hn => exact .tup ne (w.get ne h) hn
  | lst ne h hn => exact .lst ne (w.get ne h) hn
  | dK ne h => exact .dK ne (w.get ne h)
theorem Odd.th {p : Addr} {H : Hp} {v : V} (o : Odd p H v) : Th H v := by
  cases o with
  | non => exact .non
  | bl b => exact .bl b
  | int i => exact .int i
  | str x hz => exact .str x
  | tup ne h hn => exact .tup h
  | lst ne h hn => exact .lst h
  | dK ne h => exact .dK h
theorem atI_some {α : Type} {xs : List α} {i : Int} (h0 : 0 ≤ i) (h1 : i < (xs.length : Int)) : ∃ v, atI xs i = some v := by
  obtain ⟨j, rfl⟩ := Int.eq_ofNat_of_zero_le h0
  have hj : j < xs.length := by omega
  exact ⟨xs[j], atI_nat (List.getElem?_eq_getElem hj)⟩
theorem i_m1 {r : V → List V → Hp → VK → Prop} {to te : TE} {σ : L2.St} {H : Hp} {Q : VK} (q : to σ H fun x H1 => (∃ a, x = .str a) ∧ te σ H1 fun y H2 => r x [y] H2 Q) : tM1 r to te σ H Q := q
section
variable {P : Program} {w : World} {K : PySem.W.Frag} {mg : Str → Option Value} {base : Heap} {a : Ad}
def spOdd : Sp := fun vs H Q _ => ∃ p, vs = [.ref p] ∧ StOk H p ∧ ∀ v H', Odd p H' v → Went p H H' → Q v H'
theorem ok_odd (T : Txt K mg a) : FnOk P w K mg base CX0 2 a._law_odd.f a._law_odd.fd ["_law_state"] spOdd := by
  have G__law_pull : FnOk P w K mg base CX0 1 a._law_pull.f a._law_pull.fd ["_law_state", "_law_many"] spPull := ok_pull T
  have sc : FnScope ["_law_state", "_law_things"] ["_law_state"] (defScope (top 36)) := ⟨rfl, rfl, rfl, by decide +kernel, rfl, by decide +kernel, by decide +kernel⟩
  refine T._law_odd.ok sc (fun vs H Q E h => ?_) (fun cdv A outer s H vs Q E hr h => ?_)
  · obtain ⟨p, rfl, _⟩ := h
    rfl
  · obtain ⟨p, rfl, S, k⟩ := h
    refine ⟨_, (pss_cons (ps_if (pt_cmpR op_eq (pe_call G__law_pull (hr.mono (by first | decide | omega)) rfl T._law_pull.mg T._law_pull.kp T._law_pull.b .nil pass0 (pa_cons (pv 0) (pa_cons pe_int pa_nil))) pe_int (nomark _))
      (pss_one (ps_ret (pe_op op_sub (pe_call G__law_pull (hr.mono (by first | decide | omega)) rfl T._law_pull.mg T._law_pull.kp T._law_pull.b .nil pass0 (pa_cons (pv 0) (pa_cons pe_int pa_nil))) pe_int)))
      pss_nil)
      (pss_cons (ps_set (i := 1) sc.nd rfl (by first | exact Or.inl rfl | exact Or.inr rfl) (pe_lst (pa_cons pe_non (pa_cons pe_bl (pa_cons pe_bl (pa_cons pe_str (pa_cons pe_str (pa_cons pe_str (pa_cons (pe_tup (pa_cons pe_int pa_nil)) (pa_cons (pe_lst (pa_cons pe_int pa_nil)) (pa_cons pe_dnewK (pa_cons (pe_tup pa_nil) (pa_cons (pe_op op_pow pe_int pe_int) (pa_cons (pe_un un_neg pe_int) (pa_cons pe_int (pa_cons pe_int (pa_cons pe_str (pa_cons pe_str (pa_cons (pe_lst pa_nil) (pa_cons (pe_disp (pps_cons pe_str pe_int pps_nil) (by rfl) (by rfl) (fun z => by cases z) (by decide)) pa_nil))))))))))))))))))))
      (pss_one (ps_ret (pe_ix ix_list (pv 1) (pe_call G__law_pull (hr.mono (by first | decide | omega)) rfl T._law_pull.mg T._law_pull.kp T._law_pull.b .nil pass0 (pa_cons (pv 0) (pa_cons (pe_callB call_len_seq (by rfl) T.len PySem.boot_len (pa_cons (pv 1) pa_nil)) pa_nil))) (fun _ _ => rfl)))))), ?_⟩
    walk_at "go"
    refine ⟨p, _, rfl, S, by decide, by decide, fun r H1 h0 h1 W1 => ?_⟩
    walk_at "go"
    refine i_itei (fun e => ?_) (fun e => ?_)
    · walk_at "go"
      refine ⟨p, _, rfl, W1.1, by decide, by decide, fun r H2 h0 h1 W2 => ?_⟩
      walk_at "go"
      exact k _ _ (.int _) (W1.trans W2)
    · walk_at "go"
      rename_i p1 n1 p2 n2 p3 n3 p4 n4 p5 n5
      intro p6 n6
      refine ⟨upd_same, [(Sum.inr "a", .int 1)], rfl, by decide, ?_⟩
      rw [upd_upd]
      walk_at "go"
      rename_i p7 n7
      have W2 := (((((W1.new (o := .tup [.int 1]) n1).new (o := .lst [.int 2]) n2).new (o := .dK []) n3).new (o := .tup []) n4).new (o := .lst []) n5).new (o := .dK (mergeK [] [(Sum.inr "a", .int 1)])) n6
      refine ⟨p, _, rfl, (W2.new n7).1, by simp only [List.length_cons, List.length_nil]; decide, by simp only [List.length_cons, List.length_nil]; decide, fun r H2 h0 h1 W3 => ?_⟩
      walk_at "go"
      obtain ⟨v, hv, hm⟩ := at_mem h0 h1
      have hs : ∀ q o, H1 q = some o → q ≠ p → H2 q = some o := fun q o e ne => (((((((Went.rfl' W1.1).new n1).new n2).new n3).new n4).new n5).new n6 |>.new n7 |>.trans W3).2.1 q o ne e
      have n7p : p ≠ p7 := by obtain ⟨L, ns, i, b, c, e, _⟩ := W2.1; exact ne_of_none e n7
      refine i_ixl (by walk_at "hp") hv ?_
      obtain ⟨L0, ns0, i0, b0, c0, e0, _⟩ := W1.1
      have q1 : p ≠ p1 := by walk_at "ne"
      have q2 : p ≠ p2 := by walk_at "ne"
      have q3 : p ≠ p3 := by walk_at "ne"
      have q4 : p ≠ p4 := by walk_at "ne"
      have q5 : p ≠ p5 := by walk_at "ne"
      have q6 : p ≠ p6 := by walk_at "ne"
      refine k v H2 ?_ ((W2.new n7).trans W3)
      simp only [List.mem_cons, List.not_mem_nil, or_false] at hm
      rcases hm with rfl | rfl | rfl | rfl | rfl | rfl | rfl | rfl | rfl | rfl | rfl | rfl | rfl | rfl | rfl | rfl | rfl | rfl
      case _ => exact .non
      case _ => exact .bl _
      case _ => exact .bl _
      case _ => exact .str _ (by decide)
      case _ => exact .str _ (by decide)
      case _ => exact .str _ (by decide)
      case _ => exact .tup (n := 1) q1.symm (show H2 p1 = some (.tup [.int 1]) by walk_at "hp") (by decide)
      case _ => exact .lst (n := 1) q2.symm (show H2 p2 = some (.lst [.int 2]) by walk_at "hp") (by decide)
      case _ => exact .dK q3.symm (by walk_at "hp")
      case _ => exact .tup (n := 0) q4.symm (show H2 p4 = some (.tup []) by walk_at "hp") (by decide)
      case _ => exact .int _
      case _ => exact .int _
      case _ => exact .int _
      case _ => exact .int _
      case _ => exact .str _ (by decide)
      case _ => exact .str _ (by decide)
      case _ => exact .lst (n := 0) q5.symm (show H2 p5 = some (.lst []) by walk_at "hp") (by decide)
      case _ => exact .dK q6.symm (by walk_at "hp")
end
end Me
set_option maxHeartbeats 8000000
namespace Me
open PySem L2


def widBad (n : Int) : V → Option Str
  | .non => none
  | .int i => if 1 ≤ i ∧ i ≤ 60 ∧ n ≤ 1 * 2 ^ i.toNat then none else some ("width" : Str)
  | _ => some ("width" : Str)
def numBad : V → V → V → Option Str
  | .int l, .int h, w => if 2 ≤ h - l + 1 ∧ h - l + 1 ≤ 2 ^ Int.toNat 60 then widBad (h - l + 1) w else some ("high" : Str)
  | .int _, _, _ => some ("high" : Str)
  | _, _, _ => some ("low" : Str)
def dueOf (fs : List V) : Option Str → List V
  | none => .str "made" :: fs
  | some z => [.str "refused", .str z]
def Kept (H : Hp) (x : Addr) (H' : Hp) : Prop := ∀ b o, b ≠ x → H b = some o → H' b = some o
def SpI (C bad : Addr) (r : Option Str) (fs : List (Str × V)) (x dx : Addr) (H : Hp) (Q : VK) (E : XK) : Prop :=
  (r = none → ∀ H', Kept H x H' → H' x = some (.ins C dx fs) → Q .non H') ∧
  (∀ z, r = some z → ∀ d H', Same H H' → H' d = some (.xd [("part", .str z)]) → E (.ref bad) (some d) H')
theorem Kept.upd {H H' : Hp} {x : Addr} {o : HO} (k : Kept H x H') : Kept H x (upd H' x o) := fun b u n e => by rw [upd_ne n]; exact k b u n e
theorem Kept.rfl' {H : Hp} {x : Addr} : Kept H x H := fun _ _ _ e => e
theorem SpI.bad {C bad : Addr} {r : Option Str} {fs : List (Str × V)} {x dx : Addr} {H H1 : Hp} {Q : VK} {E : XK} {z : Str} (k : SpI C bad r fs x dx H Q E) (e : r = some z) (s : Same H H1) : badW bad z E H1 :=
  fun d n => k.2 z e d _ (same_new s n) upd_same
theorem i_chain {r r' : R2} {ta tb tc : TE} {σ : L2.St} {H : Hp} {Q : VK} (q : ta σ H fun x H1 => tb σ H1 fun y H2 => r x y H2 fun z H3 => ∃ k, z = .bl k ∧ (if k = true then tc σ H3 fun w' H4 => r' y w' H4 Q else Q (.bl false) H3)) : tChain r r' ta tb tc σ H Q := q
theorem i_sfld {K : PySem.W.Frag} {ta tv : TE} {f : Str} {D : Ends} {σ : L2.St} {H : Hp} (q : tv σ H fun y H1 => ta σ H1 fun x H2 => ∃ a C dx fs, x = .ref a ∧ H2 a = some (.ins C dx fs) ∧ Cls K C ∧ NoAttr K C f ∧ fs.length < 1000 ∧ D.nx σ (upd H2 a (.ins C dx (putF f y fs)))) : sFld K ta tv f D σ H := q
theorem same_rfl {H : Hp} : Same H H := fun _ _ e => e
section
variable {P : Program} {w : World} {K : PySem.W.Frag} {mg : Str → Option Value} {base : Heap} {a : Ad}
def spNum (a : Ad) : Sp := fun vs H Q E => ∃ x dx l h wv, vs = [.ref x, l, h, wv] ∧ H x = some (.ins (a.C 1) dx []) ∧ Th H l ∧ Th H h ∧ Th H wv ∧ SpI (a.C 1) a.bad (numBad l h wv) [("low", l), ("high", h), ("width", wv)] x dx H Q E
theorem ok_num (T : Txt K mg a) : FnOk P w K mg base (L2.CX P w) 3 (a.I 1).f (a.I 1).fd ["self", "low", "high", "width"] (spNum a) := by
  have G_is_int : FnOk P w K mg base CX0 1 a.is_int.f a.is_int.fd ["thing"] spIsInt := ok_is_int T
  have G_is_int_within : FnOk P w K mg base CX0 2 a.is_int_within.f a.is_int_within.fd ["thing", "least", "most"] spWithin := ok_within T
  have sc : FnScope ["self", "low", "high", "width"] ["self", "low", "high", "width"] (defScope (inClass (top 11) 0)) := ⟨rfl, rfl, rfl, by decide +kernel, rfl, by decide +kernel, by decide +kernel⟩
  refine T.I1.ok sc (fun vs H Q E h => ?_) (fun cdv A outer s H vs Q E hr h => ?_)
  · obtain ⟨x, dx, l, h, wv, rfl, _⟩ := h
    rfl
  · obtain ⟨x, dx, l, h, wv, rfl, hx, hl, hh, hw, k⟩ := h
    have tk : Takes (cxOf (L2.CX P w) P w K mg base ["self", "low", "high", "width"] "Number.__init__" (defScope (inClass (top 11) 0)) (a.I 1).f cdv A outer s H E) (fun cls d _ H => E cls d H) := takes_of rfl rfl rfl rfl
    refine ⟨_, (pss_cons (ps_if (pt_not (pt_val (pe_call G_is_int (hr.mono (by first | decide | omega)) rfl T.is_int.mg T.is_int.kp T.is_int.b .nil pass0 (pa_cons (pv 1) pa_nil))))
      (pss_one (ps_bad T.bad rfl (hr.mono (by decide)) tk))
      pss_nil)
      (pss_cons (ps_if (PW.pt (pw_or (pt_not (pt_val (pe_call G_is_int (hr.mono (by first | decide | omega)) rfl T.is_int.mg T.is_int.kp T.is_int.b .nil pass0 (pa_cons (pv 2) pa_nil)))) (pw_or1 (pt_not (pt_chain op_le op_le pe_int (pe_op op_add (pe_op op_sub (pv 2) (pv 1)) pe_int) (pe_op op_pow pe_int pe_int))))))
      (pss_one (ps_bad T.bad rfl (hr.mono (by decide)) tk))
      pss_nil)
      (pss_cons (ps_if (pt_cmpR op_notN (pv 3) pe_non (nomark _))
      (pss_one (ps_if (PW.pt (pw_or (pt_not (pt_val (pe_call G_is_int_within (hr.mono (by first | decide | omega)) rfl T.is_int_within.mg T.is_int_within.kp T.is_int_within.b .nil pass0 (pa_cons (pv 3) (pa_cons pe_int (pa_cons pe_int pa_nil)))))) (pw_or1 (pt_cmpR op_lt (pe_op op_shl pe_int (pv 3)) (pe_op op_add (pe_op op_sub (pv 2) (pv 1)) pe_int) (nomark _)))))
      (pss_one (ps_bad T.bad rfl (hr.mono (by decide)) tk))
      pss_nil))
      pss_nil)
      (pss_cons (ps_fld (pv 0) (pv 1) rfl)
      (pss_cons (ps_fld (pv 0) (pv 2) rfl)
      (pss_one (ps_fld (pv 0) (pv 3) rfl))))))), ?_⟩
    walk_at "go"
    refine ⟨l, rfl, hl, ?_⟩
    walk_at "go"
    cases hl with
    | int l =>
      refine i_no rfl ?_
      walk_at "go"
      refine ⟨h, rfl, hh, ?_⟩
      walk_at "go"
      cases hh with
      | int h =>
        refine i_no rfl ?_
        walk_at "go"
        have e60 : (2 : Int) ^ Int.toNat 60 = 1152921504606846976 := by decide +kernel
        have high : ¬ (2 ≤ h - l + 1 ∧ h - l + 1 ≤ (2 : Int) ^ Int.toNat 60) → numBad (.int l) (.int h) wv = some ("high" : Str) := fun q => if_neg q
        have lf : H x = some (.ins (a.C 1) dx []) := hx
        have cl := (T.kc 1 (by decide)).cl
        have no := (T.kc 1 (by decide)).no
        refine i_chain ?_
        walk_at "go"
        refine i_itd (fun h1 => ?_) (fun h1 => ?_)
        · walk_at "go"
          refine i_itn (fun h2 => ?_) (fun h2 => ?_)
          · exact k.bad (high (by omega)) same_rfl
          · have ok : numBad (.int l) (.int h) wv = widBad (h - l + 1) wv := if_pos ⟨by omega, by omega⟩
            rw [ok] at k
            walk_at "go"
            refine ⟨rfl, _, rfl, ?_⟩
            have fin : widBad (h - l + 1) wv = none → tSeq (sFld K (tVar 0) (tVar 1) "low") (tSeq (sFld K (tVar 0) (tVar 2) "high") (sFld K (tVar 0) (tVar 3) "width")) { nx := fun _ H' => Q .non H', rt := Q } (L2.start ["self", "low", "high", "width"] [.ref x, .int l, .int h, wv]) H := fun e => by
              walk_at "go"
              refine i_sfld ?_
              walk_at "go"
              refine ⟨x, _, dx, [], rfl, hx, cl, no _ (by decide), by decide, ?_⟩
              walk_at "go"
              refine i_sfld ?_
              walk_at "go"
              refine ⟨x, _, dx, [("low", .int l)], rfl, upd_same, cl, no _ (by decide), (by show (1 : Nat) < 1000; decide), ?_⟩
              dsimp only
              refine i_sfld ?_
              walk_at "go"
              refine ⟨x, _, dx, [("low", .int l), ("high", .int h)], rfl, upd_same, cl, no _ (by decide), (by show (2 : Nat) < 1000; decide), ?_⟩
              exact k.1 e _ Kept.rfl'.upd.upd.upd upd_same
            refine i_itn (fun h3 => ?_) (fun h3 => ?_)
            · walk_at "go"
              refine ⟨wv, _, _, rfl, hw, ?_⟩
              cases hw with
              | int i =>
                have wd : ¬ (1 ≤ i ∧ i ≤ 60 ∧ h - l + 1 ≤ 1 * 2 ^ i.toNat) → widBad (h - l + 1) (.int i) = some ("width" : Str) := fun q => if_neg q
                refine ⟨_, rfl, ?_⟩
                by_cases h4 : 1 ≤ i ∧ i ≤ 60
                · refine i_no (by show (!(decide (1 ≤ i) && decide (i ≤ 60))) = false; rw [decide_eq_true h4.1, decide_eq_true h4.2]; rfl) ?_
                  obtain ⟨h5, h6⟩ := h4
                  walk_at "go"
                  refine i_itd (fun h7 => ?_) (fun h7 => ?_)
                  · exact k.bad (wd (by omega)) same_rfl
                  · exact fin (if_pos ⟨by omega, by omega, by omega⟩)
                · refine i_yes (by
                    show (!(decide (1 ≤ i) && decide (i ≤ 60))) = true
                    rw [← Bool.decide_and, decide_eq_false h4]; rfl) ?_
                  exact k.bad (wd (by omega)) same_rfl
              | non => exact absurd rfl h3
              | _ => exact ⟨_, rfl, i_yes rfl (k.bad rfl same_rfl)⟩
            · subst h3
              exact fin rfl
        · walk_at "go"
          exact k.bad (high (by omega)) same_rfl
      | _ =>
        refine i_yes rfl ?_
        exact k.bad rfl same_rfl
    | _ =>
      refine i_yes rfl ?_
      exact k.bad rfl same_rfl
end
end Me
set_option maxHeartbeats 8000000
namespace Me
open PySem L2


/-- a thing, and the class of the text that it is of -/
inductive Itm (a : Ad) (H : Hp) : V → Option Nat → Prop where
  | th {v : V} (h : Th H v) : Itm a H v none
  | ins {p dx : Addr} {fs : List (Str × V)} {i : Nat} (hi : i < 11) (h : H p = some (.ins (a.C i) dx fs)) : Itm a H (.ref p) (some i)
theorem Itm.same {a : Ad} {H H' : Hp} {v : V} {k : Option Nat} (h : Itm a H v k) (s : Same H H') : Itm a H' v k := by
  cases h with
  | th h => exact .th (h.same s)
  | ins hi h => exact .ins hi (s _ _ h)
theorem Itm.kit {K : PySem.W.Frag} {mg : Str → Option Value} {a : Ad} (T : Txt K mg a) {H : Hp} {v : V} {k : Option Nat} (h : Itm a H v k) :
    ∃ t, TyX K H v t ∧ ∀ j, j < 11 → PySem.W.kitOne K t (.ref (a.C j)) = some (decide (k = some j)) := by
  cases h with
  | th h =>
    have go : ∀ t ∈ tys, ∀ j, j < 11 → PySem.W.kitOne K (.type t) (.ref (a.C j)) = some (decide ((none : Option Nat) = some j)) := fun t m j hj => by
      rw [(T.kc j hj).tK t m]; rfl
    cases h with
    | non => exact ⟨_, .base .non, go _ (by decide)⟩
    | bl b => exact ⟨_, .base (.bl b), go _ (by decide)⟩
    | int i => exact ⟨_, .base (.int i), go _ (by decide)⟩
    | str x => exact ⟨_, .base (.str x), go _ (by decide)⟩
    | tup h => exact ⟨_, .base (.tup h), go _ (by decide)⟩
    | lst h => exact ⟨_, .base (.lst h), go _ (by decide)⟩
    | dK h => exact ⟨_, .base (.dK h), go _ (by decide)⟩
  | @ins p dx fs i hi h =>
    refine ⟨_, (T.kc i hi).ty h, fun j hj => ?_⟩
    rw [(T.kc i hi).kt j hj]
    congr 1
    by_cases e : i = j
    · rw [decide_eq_true e, decide_eq_true (by rw [e])]
    · rw [decide_eq_false e, decide_eq_false (fun q => e (Option.some.inj q))]
theorem kitAny_or {K : PySem.W.Frag} {t c : Value} {cs : List Value} {b r : Bool} (h : PySem.W.kitOne K t c = some b) (hr : PySem.W.kitAny K t cs = some r) : PySem.W.kitAny K t (c :: cs) = some (b || r) := by
  refine kitAny_cons h (fun e => ?_) (fun e => ?_)
  · rw [e]; exact hr
  · rw [e]; rfl
def isK (k : Option Nat) (js : List Nat) : Bool := js.any fun j => decide (k = some j)
theorem kitAny_js {K : PySem.W.Frag} {a : Ad} {t : Value} {k : Option Nat} (h : ∀ j, j < 11 → PySem.W.kitOne K t (.ref (a.C j)) = some (decide (k = some j))) : ∀ js : List Nat, (∀ j ∈ js, j < 11) → PySem.W.kitAny K t (js.map fun j => .ref (a.C j)) = some (isK k js)
  | [], _ => rfl
  | j :: js, hj => kitAny_or (h j (hj j List.mem_cons_self)) (kitAny_js h js fun i m => hj i (List.mem_cons_of_mem _ m))
theorem paired_js {a : Ad} : ∀ js : List Nat, PySem.Paired ClsV (js.map fun j => V.ref (a.C j)) (js.map fun j => Value.ref (a.C j))
  | [] => .nil
  | j :: js => .cons (.own _) (paired_js js)
/-- isinstance(x, (classes ..)) -/
theorem i_isT {K : PySem.W.Frag} {mg : Str → Option Value} {a : Ad} (T : Txt K mg a) {H : Hp} {Q : VK} {x : V} {k : Option Nat} {tp : Addr} (js : List Nat) (hj : ∀ j ∈ js, j < 11) (h : Itm a H x k) (ht : H tp = some (.tup (js.map fun j => V.ref (a.C j)))) (q : Q (.bl (isK k js)) H) : rIsiT K [x, .ref tp] H Q := by
  obtain ⟨t, ty, hk⟩ := h.kit T
  exact ⟨x, tp, _, t, _, _, rfl, ht, paired_js js, ty, kitAny_js hk js hj, q⟩
/-- isinstance(x, class) -/
theorem i_isC {K : PySem.W.Frag} {mg : Str → Option Value} {a : Ad} (T : Txt K mg a) {H : Hp} {Q : VK} {x : V} {k : Option Nat} {j : Nat} (hj : j < 11) (h : Itm a H x k) (q : Q (.bl (decide (k = some j))) H) : rIsi K [x, .ref (a.C j)] H Q := by
  obtain ⟨t, ty, hk⟩ := h.kit T
  exact ⟨x, _, t, _, _, rfl, .own _, ty, hk j hj, q⟩
def bitBad (y : V) : Option Str := if withinV y 1 16 = true then none else some ("many" : Str)
def callBad (y : V) : Option Str := if nameV y = true then none else some ("name" : Str)
def itemBad (k : Option Nat) (wv : V) : Option Str := if isK k [1, 2, 3] = true then (if wv = .non ∨ withinV wv 1 3 = true then none else some ("width" : Str)) else some ("item" : Str)
theorem ok0x {P : Program} {w : World} {K : PySem.W.Frag} {mg : Str → Option Value} {base : Heap} {x qual : Str} {params : Arguments} {body : List Stmt} {scope : Scope} {dv : List V} {f : Addr} {fd : FuncData} {N ps : List Str} {k : Nat} {sp : Sp} (F : FunD K x qual params body scope dv [] f fd) (S : FnScope N ps scope) (len : ∀ vs H Q E, sp vs H Q E → vs.length = ps.length)
    (go : ∀ (cdv : Value) (A : Around) (outer : List Env) (s : Shared) (H : Hp) (vs : List V) (Q : VK) (E : XK), Room k (A.deeper (PyProof.Rows.envOfC qual scope s.heap.objs.size f cdv)) → sp vs H Q E →
      ∃ t, PSs (cxOf (L2.CX P w) P w K mg base N qual scope f cdv A outer s H E) body t ∧ t { nx := fun _ H' => Q .non H', rt := Q } (start N vs) H) : FnOk P w K mg base (L2.CX P w) (k + 1) f fd ps sp := F.ok S len go
section
variable {P : Program} {w : World} {K : PySem.W.Frag} {mg : Str → Option Value} {base : Heap} {a : Ad}
def spBit (a : Ad) : Sp := fun vs H Q E => ∃ x dx y, vs = [.ref x, y] ∧ H x = some (.ins (a.C 2) dx []) ∧ Th H y ∧ SpI (a.C 2) a.bad (bitBad y) [("many", y)] x dx H Q E
theorem ok_bit (T : Txt K mg a) : FnOk P w K mg base (L2.CX P w) 3 (a.I 2).f (a.I 2).fd ["self", "many"] (spBit a) := by
  have G_is_int_within : FnOk P w K mg base CX0 2 a.is_int_within.f a.is_int_within.fd ["thing", "least", "most"] spWithin := ok_within T
  have sc : FnScope ["self", "many"] ["self", "many"] (defScope (inClass (top 12) 0)) := ⟨rfl, rfl, rfl, by decide +kernel, rfl, by decide +kernel, by decide +kernel⟩
  refine ok0x T.I2 sc (fun vs H Q E h => ?_) (fun cdv A outer s H vs Q E hr h => ?_)
  · obtain ⟨x, dx, y, rfl, _⟩ := h
    rfl
  · obtain ⟨x, dx, y, rfl, hx, hy, k⟩ := h
    have tk : Takes (cxOf (L2.CX P w) P w K mg base ["self", "many"] "Bits.__init__" (defScope (inClass (top 12) 0)) (a.I 2).f cdv A outer s H E) (fun cls d _ H => E cls d H) := takes_of rfl rfl rfl rfl
    refine ⟨_, (pss_cons (ps_if (pt_not (pt_val (pe_call G_is_int_within (hr.mono (by first | decide | omega)) rfl T.is_int_within.mg T.is_int_within.kp T.is_int_within.b .nil pass0 (pa_cons (pv 1) (pa_cons pe_int (pa_cons pe_int pa_nil))))))
      (pss_one (ps_bad T.bad rfl (hr.mono (by decide)) tk))
      pss_nil)
      (pss_one (ps_fld (pv 0) (pv 1) rfl))), ?_⟩
    walk_at "go"
    refine ⟨y, _, _, rfl, hy, ?_⟩
    walk_at "go"
    refine i_itb (fun h1 => ?_) (fun h1 => ?_)
    · refine k.bad (if_neg ?_) same_rfl
      intro z; rw [z] at h1; cases h1
    · have h1 : withinV y 1 16 = true := by revert h1; cases withinV y 1 16 <;> simp
      walk_at "go"
      dsimp only
      refine i_sfld ?_
      walk_at "go"
      refine ⟨x, _, dx, [], rfl, hx, (T.kc 2 (by decide)).cl, (T.kc 2 (by decide)).no _ (by decide), by decide, ?_⟩
      exact k.1 (if_pos h1) _ Kept.rfl'.upd upd_same
def spCal (a : Ad) : Sp := fun vs H Q E => ∃ x dx y, vs = [.ref x, y] ∧ H x = some (.ins (a.C 3) dx []) ∧ Th H y ∧ (∀ z, y = .str z → z.length ≤ 100) ∧ SpI (a.C 3) a.bad (callBad y) [("name", y)] x dx H Q E
theorem ok_cal (T : Txt K mg a) : FnOk P w K mg base (L2.CX P w) 3 (a.I 3).f (a.I 3).fd ["self", "name"] (spCal a) := by
  have G_is_name : FnOk P w K mg base CX0 1 a.is_name.f a.is_name.fd ["thing"] (spIsName True) := ok_is_name T
  have sc : FnScope ["self", "name"] ["self", "name"] (defScope (inClass (top 13) 0)) := ⟨rfl, rfl, rfl, by decide +kernel, rfl, by decide +kernel, by decide +kernel⟩
  refine ok0x T.I3 sc (fun vs H Q E h => ?_) (fun cdv A outer s H vs Q E hr h => ?_)
  · obtain ⟨x, dx, y, rfl, _⟩ := h
    rfl
  · obtain ⟨x, dx, y, rfl, hx, hy, hz, k⟩ := h
    have tk : Takes (cxOf (L2.CX P w) P w K mg base ["self", "name"] "Call.__init__" (defScope (inClass (top 13) 0)) (a.I 3).f cdv A outer s H E) (fun cls d _ H => E cls d H) := takes_of rfl rfl rfl rfl
    refine ⟨_, (pss_cons (ps_if (pt_not (pt_val (pe_call G_is_name (hr.mono (by first | decide | omega)) rfl T.is_name.mg T.is_name.kp T.is_name.b .nil pass0 (pa_cons (pv 1) pa_nil))))
      (pss_one (ps_bad T.bad rfl (hr.mono (by decide)) tk))
      pss_nil)
      (pss_one (ps_fld (pv 0) (pv 1) rfl))), ?_⟩
    walk_at "go"
    refine ⟨y, rfl, hy, hz, fun H1 s1 => ?_⟩
    walk_at "go"
    refine i_itb (fun h1 => ?_) (fun h1 => ?_)
    · refine k.bad (if_neg ?_) s1
      intro z; rw [z] at h1; cases h1
    · have h1 : nameV y = true := by revert h1; cases nameV y <;> simp
      walk_at "go"
      dsimp only
      refine i_sfld ?_
      walk_at "go"
      refine ⟨x, _, dx, [], rfl, s1 _ _ hx, (T.kc 3 (by decide)).cl, (T.kc 3 (by decide)).no _ (by decide), by decide, ?_⟩
      exact k.1 (if_pos h1) _ (Kept.upd fun b o _ e => s1 b o e) upd_same
def spItm (a : Ad) : Sp := fun vs H Q E => ∃ x dx y wv i, vs = [.ref x, y, wv] ∧ H x = some (.ins (a.C 4) dx []) ∧ Itm a H y i ∧ Th H wv ∧ SpI (a.C 4) a.bad (itemBad i wv) [("item", y), ("width", wv)] x dx H Q E
theorem ok_itm (T : Txt K mg a) : FnOk P w K mg base (L2.CX P w) 3 (a.I 4).f (a.I 4).fd ["self", "item", "width"] (spItm a) := by
  have G_is_int_within : FnOk P w K mg base CX0 2 a.is_int_within.f a.is_int_within.fd ["thing", "least", "most"] spWithin := ok_within T
  have sc : FnScope ["self", "item", "width"] ["self", "item", "width"] (defScope (inClass (top 14) 0)) := ⟨rfl, rfl, rfl, by decide +kernel, rfl, by decide +kernel, by decide +kernel⟩
  refine ok0x T.I4 sc (fun vs H Q E h => ?_) (fun cdv A outer s H vs Q E hr h => ?_)
  · obtain ⟨x, dx, y, wv, i, rfl, _⟩ := h
    rfl
  · obtain ⟨x, dx, y, wv, i, rfl, hx, hy, hw, k⟩ := h
    have tk : Takes (cxOf (L2.CX P w) P w K mg base ["self", "item", "width"] "Items.__init__" (defScope (inClass (top 14) 0)) (a.I 4).f cdv A outer s H E) (fun cls d _ H => E cls d H) := takes_of rfl rfl rfl rfl
    refine ⟨_, (pss_cons (ps_if (pt_not (pt_val (pe_callB call_isiT (by rfl) T.isinstance (by decide +kernel) (pa_cons (pv 1) (pa_cons (pe_tup (pa_cons (pe_glob (v := .ref (a.C 1)) rfl (T.kc 1 (by decide)).gl rfl) (pa_cons (pe_glob (v := .ref (a.C 2)) rfl (T.kc 2 (by decide)).gl rfl) (pa_cons (pe_glob (v := .ref (a.C 3)) rfl (T.kc 3 (by decide)).gl rfl) pa_nil)))) pa_nil)))))
      (pss_one (ps_bad T.bad rfl (hr.mono (by decide)) tk))
      pss_nil)
      (pss_cons (ps_if (PW.pt (pw_and (pt_cmpR op_notN (pv 2) pe_non (nomark _)) (pw_and1 (pt_not (pt_val (pe_call G_is_int_within (hr.mono (by first | decide | omega)) rfl T.is_int_within.mg T.is_int_within.kp T.is_int_within.b .nil pass0 (pa_cons (pv 2) (pa_cons pe_int (pa_cons pe_int pa_nil)))))))))
      (pss_one (ps_bad T.bad rfl (hr.mono (by decide)) tk))
      pss_nil)
      (pss_cons (ps_fld (pv 0) (pv 1) rfl)
      (pss_one (ps_fld (pv 0) (pv 2) rfl))))), ?_⟩
    walk_at "go"
    rename_i tp ntp
    have s1 : Same H (upd H tp (.tup [.ref (a.C 1), .ref (a.C 2), .ref (a.C 3)])) := same_new same_rfl ntp
    refine i_isT T [1, 2, 3] (by decide) (hy.same s1) upd_same ?_
    walk_at "go"
    refine i_itb (fun h1 => ?_) (fun h1 => ?_)
    · refine k.bad (if_neg ?_) s1
      intro z; rw [z] at h1; cases h1
    · have h1 : isK i [1, 2, 3] = true := by revert h1; cases isK i [1, 2, 3] <;> simp
      have e1 : itemBad i wv = if wv = .non ∨ withinV wv 1 3 = true then none else some ("width" : Str) := if_pos h1
      rw [e1] at k
      have fin : wv = .non ∨ withinV wv 1 3 = true → tSeq (sFld K (tVar 0) (tVar 1) "item") (sFld K (tVar 0) (tVar 2) "width") { nx := fun _ H' => Q .non H', rt := Q } (L2.start ["self", "item", "width"] [.ref x, y, wv]) (upd H tp (.tup [.ref (a.C 1), .ref (a.C 2), .ref (a.C 3)])) := fun e => by
        walk_at "go"
        refine i_sfld ?_
        walk_at "go"
        refine ⟨x, _, dx, [], rfl, s1 _ _ hx, (T.kc 4 (by decide)).cl, (T.kc 4 (by decide)).no _ (by decide), by decide, ?_⟩
        dsimp only
        refine i_sfld ?_
        walk_at "go"
        refine ⟨x, _, dx, [("item", y)], rfl, upd_same, (T.kc 4 (by decide)).cl, (T.kc 4 (by decide)).no _ (by decide), (by show (1 : Nat) < 1000; decide), ?_⟩
        exact k.1 (if_pos e) _ (Kept.upd (Kept.upd fun b o _ e => s1 b o e)) upd_same
      walk_at "go"
      refine ⟨rfl, _, rfl, ?_⟩
      refine i_itn (fun h2 => ?_) (fun h2 => ?_)
      · walk_at "go"
        refine ⟨wv, _, _, rfl, hw.same s1, ?_⟩
        walk_at "go"
        refine i_itb (fun h3 => ?_) (fun h3 => ?_)
        · refine k.bad (if_neg ?_) s1
          rintro (z | z)
          · exact h2 z
          · rw [z] at h3; cases h3
        · exact fin (.inr (by revert h3; cases withinV wv 1 3 <;> simp))
      · exact fin (.inl h2)
end
end Me
set_option maxHeartbeats 8000000
namespace Me
open PySem L2


theorem i_fld {K : PySem.W.Frag} {ta : TE} {f : Str} {σ : L2.St} {H : Hp} {Q : VK} (q : ta σ H fun x H1 => ∃ a C dx fs v, x = .ref a ∧ H1 a = some (.ins C dx fs) ∧ Cls K C ∧ NoAttr K C f ∧ fs.lookup f = some v ∧ Q v H1) : tFld K ta f σ H Q := q
theorem i_feq {K : PySem.W.Frag} {f : Str} {C p q dx dy : Addr} {fs gs : List (Str × V)} {v : V} {σ : L2.St} {H : Hp} {Q : VK} (h0 : σ[0]? = some (some (.ref p))) (h1 : σ[1]? = some (some (.ref q))) (hp : H p = some (.ins C dx fs)) (hq : H q = some (.ins C dy gs))
    (cl : Cls K C) (no : NoAttr K C f) (l1 : fs.lookup f = some v) (l2 : gs.lookup f = some v) (e : scal v v = true) (k : Q (.bl true) H) : tOp rEq (tFld K (tVar 0) f) (tFld K (tVar 1) f) σ H Q := by
  refine ⟨_, h0, p, C, dx, fs, v, rfl, hp, cl, no, l1, _, h1, q, C, dy, gs, v, rfl, hq, cl, no, l2, e, ?_⟩
  rw [decide_eq_true rfl]; exact k
def RNum (a : Ad) : Addr → Addr → Hp → Prop := fun p q H => ∃ dx dy l h wv, H p = some (.ins (a.C 1) dx [("low", l), ("high", h), ("width", wv)]) ∧ H q = some (.ins (a.C 1) dy [("low", l), ("high", h), ("width", wv)]) ∧ scal l l = true ∧ scal h h = true ∧ scal wv wv = true
def RBit (a : Ad) : Addr → Addr → Hp → Prop := fun p q H => ∃ dx dy y, H p = some (.ins (a.C 2) dx [("many", y)]) ∧ H q = some (.ins (a.C 2) dy [("many", y)]) ∧ scal y y = true
def RCal (a : Ad) : Addr → Addr → Hp → Prop := fun p q H => ∃ dx dy y, H p = some (.ins (a.C 3) dx [("name", y)]) ∧ H q = some (.ins (a.C 3) dy [("name", y)]) ∧ scal y y = true
/-- equal simple things -/
def DSim (a : Ad) : L2.Eqv := fun x y H => DIns (a.C 1) (RNum a) x y H ∨ DIns (a.C 2) (RBit a) x y H ∨ DIns (a.C 3) (RCal a) x y H
def RItm (a : Ad) : Addr → Addr → Hp → Prop := fun p q H => ∃ dx dy x y wv, H p = some (.ins (a.C 4) dx [("item", x), ("width", wv)]) ∧ H q = some (.ins (a.C 4) dy [("item", y), ("width", wv)]) ∧ DSim a x y H ∧ scal wv wv = true
section
variable {P : Program} {w : World} {K : PySem.W.Frag} {mg : Str → Option Value} {base : Heap} {a : Ad}
theorem ok_eq1 (T : Txt K mg a) : FnOk P w K mg base CX0 1 (a.E 1).f (a.E 1).fd ["self", "other"] (spEq (RNum a)) := by
  have sc : FnScope ["self", "other"] ["self", "other"] (defScope (inClass (top 11) 1)) := ⟨rfl, rfl, rfl, by decide +kernel, rfl, by decide +kernel, by decide +kernel⟩
  refine ok0 T.E1 sc (fun vs H Q E h => ?_) (fun cdv A outer s H vs Q E hr h => ?_)
  · obtain ⟨p, q, rfl, _⟩ := h
    rfl
  · obtain ⟨p, q, rfl, ⟨dx, dy, l, h, wv, hp, hq, e1, e2, e3⟩, k⟩ := h
    have kc := T.kc 1 (by decide)
    refine ⟨_, (pss_one (ps_ret (pe_and (pe_callB call_isi (by rfl) T.isinstance (by decide +kernel) (pa_cons (pv 1) (pa_cons (pe_glob (v := .ref (a.C 1)) rfl (T.kc 1 (by decide)).gl rfl) pa_nil))) (pe_and (pe_cmpR op_eq (pe_fld (pv 0) rfl) (pe_fld (pv 1) rfl) (nomark _)) (pe_and (pe_cmpR op_eq (pe_fld (pv 0) rfl) (pe_fld (pv 1) rfl) (nomark _)) (pe_one (pe_cmpR op_eq (pe_fld (pv 0) rfl) (pe_fld (pv 1) rfl) (nomark _)))))))), ?_⟩
    walk_at "go"
    refine i_isC T (by decide) (.ins (by decide) hq) ?_
    refine ⟨_, rfl, i_yes (decide_eq_true rfl) ?_⟩
    refine i_andV (i_feq rfl rfl hp hq kc.cl (kc.no _ (by decide)) rfl rfl e1 ⟨_, rfl, i_yes rfl ?_⟩)
    refine i_andV (i_feq rfl rfl hp hq kc.cl (kc.no _ (by decide)) rfl rfl e2 ⟨_, rfl, i_yes rfl ?_⟩)
    exact i_feq rfl rfl hp hq kc.cl (kc.no _ (by decide)) rfl rfl e3 (k _ Ext.rfl')
theorem ok_eq2 (T : Txt K mg a) : FnOk P w K mg base CX0 1 (a.E 2).f (a.E 2).fd ["self", "other"] (spEq (RBit a)) := by
  have sc : FnScope ["self", "other"] ["self", "other"] (defScope (inClass (top 12) 1)) := ⟨rfl, rfl, rfl, by decide +kernel, rfl, by decide +kernel, by decide +kernel⟩
  refine ok0 T.E2 sc (fun vs H Q E h => ?_) (fun cdv A outer s H vs Q E hr h => ?_)
  · obtain ⟨p, q, rfl, _⟩ := h
    rfl
  · obtain ⟨p, q, rfl, ⟨dx, dy, y, hp, hq, e1⟩, k⟩ := h
    have kc := T.kc 2 (by decide)
    refine ⟨_, (pss_one (ps_ret (pe_and (pe_callB call_isi (by rfl) T.isinstance (by decide +kernel) (pa_cons (pv 1) (pa_cons (pe_glob (v := .ref (a.C 2)) rfl (T.kc 2 (by decide)).gl rfl) pa_nil))) (pe_one (pe_cmpR op_eq (pe_fld (pv 0) rfl) (pe_fld (pv 1) rfl) (nomark _)))))), ?_⟩
    walk_at "go"
    refine i_isC T (by decide) (.ins (by decide) hq) ?_
    refine ⟨_, rfl, i_yes (decide_eq_true rfl) ?_⟩
    exact i_feq rfl rfl hp hq kc.cl (kc.no _ (by decide)) rfl rfl e1 (k _ Ext.rfl')
theorem ok_eq3 (T : Txt K mg a) : FnOk P w K mg base CX0 1 (a.E 3).f (a.E 3).fd ["self", "other"] (spEq (RCal a)) := by
  have sc : FnScope ["self", "other"] ["self", "other"] (defScope (inClass (top 13) 1)) := ⟨rfl, rfl, rfl, by decide +kernel, rfl, by decide +kernel, by decide +kernel⟩
  refine ok0 T.E3 sc (fun vs H Q E h => ?_) (fun cdv A outer s H vs Q E hr h => ?_)
  · obtain ⟨p, q, rfl, _⟩ := h
    rfl
  · obtain ⟨p, q, rfl, ⟨dx, dy, y, hp, hq, e1⟩, k⟩ := h
    have kc := T.kc 3 (by decide)
    refine ⟨_, (pss_one (ps_ret (pe_and (pe_callB call_isi (by rfl) T.isinstance (by decide +kernel) (pa_cons (pv 1) (pa_cons (pe_glob (v := .ref (a.C 3)) rfl (T.kc 3 (by decide)).gl rfl) pa_nil))) (pe_one (pe_cmpR op_eq (pe_fld (pv 0) rfl) (pe_fld (pv 1) rfl) (nomark _)))))), ?_⟩
    walk_at "go"
    refine i_isC T (by decide) (.ins (by decide) hq) ?_
    refine ⟨_, rfl, i_yes (decide_eq_true rfl) ?_⟩
    exact i_feq rfl rfl hp hq kc.cl (kc.no _ (by decide)) rfl rfl e1 (k _ Ext.rfl')
theorem rc_sim {X : Cx} (T : Txt X.K X.mg a) : RcG X 1 (DSim a) := by
  intro A pins s σ H x y u v sb I rx ry d
  rcases d with d | d | d
  · exact rcG_ins (ok_eq1 T) (T.kc 1 (by decide)).eqA (T.kc 1 (by decide)).eqF T.Eb1 pass0 A pins s σ H x y u v sb I rx ry d
  · exact rcG_ins (ok_eq2 T) (T.kc 2 (by decide)).eqA (T.kc 2 (by decide)).eqF T.Eb2 pass0 A pins s σ H x y u v sb I rx ry d
  · exact rcG_ins (ok_eq3 T) (T.kc 3 (by decide)).eqA (T.kc 3 (by decide)).eqF T.Eb3 pass0 A pins s σ H x y u v sb I rx ry d
theorem ok_eq4 (T : Txt K mg a) : FnOk P w K mg base CX0 2 (a.E 4).f (a.E 4).fd ["self", "other"] (spEq (RItm a)) := by
  have sc : FnScope ["self", "other"] ["self", "other"] (defScope (inClass (top 14) 1)) := ⟨rfl, rfl, rfl, by decide +kernel, rfl, by decide +kernel, by decide +kernel⟩
  refine ok0 T.E4 sc (fun vs H Q E h => ?_) (fun cdv A outer s H vs Q E hr h => ?_)
  · obtain ⟨p, q, rfl, _⟩ := h
    rfl
  · obtain ⟨p, q, rfl, ⟨dx, dy, x, y, wv, hp, hq, d, e1⟩, k⟩ := h
    have kc := T.kc 4 (by decide)
    refine ⟨_, (pss_one (ps_ret (pe_and (pe_callB call_isi (by rfl) T.isinstance (by decide +kernel) (pa_cons (pv 1) (pa_cons (pe_glob (v := .ref (a.C 4)) rfl (T.kc 4 (by decide)).gl rfl) pa_nil))) (pe_and (pe_cmpR (op_eqG (rc_sim T) (hr.mono (by decide))) (pe_fld (pv 0) rfl) (pe_fld (pv 1) rfl) (nomark _)) (pe_one (pe_cmpR op_eq (pe_fld (pv 0) rfl) (pe_fld (pv 1) rfl) (nomark _))))))), ?_⟩
    walk_at "go"
    refine i_isC T (by decide) (.ins (by decide) hq) ?_
    refine ⟨_, rfl, i_yes (decide_eq_true rfl) ?_⟩
    refine i_andV ⟨_, rfl, p, _, _, _, x, rfl, hp, kc.cl, kc.no _ (by decide), rfl, _, rfl, q, _, _, _, y, rfl, hq, kc.cl, kc.no _ (by decide), rfl, d, fun H1 x1 => ⟨_, rfl, i_yes rfl ?_⟩⟩
    exact i_feq rfl rfl (x1 _ _ hp) (x1 _ _ hq) kc.cl (kc.no _ (by decide)) rfl rfl e1 (k _ x1)
theorem rc_itm {X : Cx} (T : Txt X.K X.mg a) : RcG X 2 (DIns (a.C 4) (RItm a)) := rcG_ins (ok_eq4 T) (T.kc 4 (by decide)).eqA (T.kc 4 (by decide)).eqF T.Eb4 pass0
end
end Me
set_option maxHeartbeats 8000000
namespace Me
open PySem L2


/-- what an exception that leaves a call in a try meets -/
def AW (n : Nat) (W : WX) : XK := fun cls d H => ∀ σ : L2.St, σ.length = n → W cls d σ H
def tsBad (bad : Addr) (i : Nat) : Addr → Value → Option Addr → TS := fun e cls d => tRet (tTup (tCons (tC (.str "refused")) (tCons (tXf e cls d bad "part" (tVar i)) tNil)))
theorem Kept.same {H H' : Hp} {x dx : Addr} {o o' : HO} (k : Kept (L2.upd (L2.upd H dx o) x o') x H') (nx : H x = none) (nd : H dx = none) : Same H H' := fun b u e => by
  have n1 := ne_of_none e nx
  have n2 := ne_of_none e nd
  refine k b u n1 ?_
  rw [upd_ne n1, upd_ne n2]; exact e
theorem same2 {H : Hp} {x dx : Addr} {o o' : HO} (nx : H x = none) (nd : H dx = none) : Same H (upd (upd H dx o) x o') := fun b u e => by
  rw [upd_ne (ne_of_none e nx), upd_ne (ne_of_none e nd)]; exact e
theorem Same.trans {H H1 H2 : Hp} (a : Same H H1) (b : Same H1 H2) : Same H H2 := fun c o e => b c o (a c o e)
theorem caught {K : PySem.W.Frag} {mg : Str → Option Value} {bad : Addr} {badI : DA} (B : BadT K mg bad badI) {i n : Nat} (hi : i < n) {D : Ends} {z : Str} {d : Addr} {H' : Hp} (hd : H' d = some (.xd [("part", .str z)]))
    (q : ∀ t, H' t = none → D.rt (.ref t) (upd H' t (.tup [.str "refused", .str z]))) : AW n (wAs K (.ref bad) i (tsBad bad i) (fun _ _ _ _ => False) D) (.ref bad) (some d) H' := by
  intro σ hl
  refine ⟨true, B.ex, fun _ e0 ne => ?_, fun z => Bool.noConfusion z⟩
  refine ⟨_, by rw [List.getElem?_set_self (by omega)], rfl, rfl, d, _, .str z, rfl, hd, rfl, ?_⟩
  refine ⟨by show (2 : Nat) ≤ 16777216; decide, fun t nt => ?_⟩
  exact q t nt
end Me
set_option maxHeartbeats 8000000
namespace Me
open PySem L2


theorem scal_wid {n : Int} {v : V} (e : widBad n v = none) : scal v v = true := by
  cases v with
  | non => rfl
  | int i => rfl
  | _ => (unfold widBad at e; cases e)
theorem scal_num {l h wv : V} (e : numBad l h wv = none) : scal l l = true ∧ scal h h = true ∧ scal wv wv = true := by
  cases l with
  | int l =>
    cases h with
    | int h =>
      refine ⟨rfl, rfl, ?_⟩
      have e : (if 2 ≤ h - l + 1 ∧ h - l + 1 ≤ (2 : Int) ^ Int.toNat 60 then widBad (h - l + 1) wv else some ("high" : Str)) = none := e
      by_cases q : 2 ≤ h - l + 1 ∧ h - l + 1 ≤ (2 : Int) ^ Int.toNat 60
      · rw [if_pos q] at e; exact scal_wid e
      · rw [if_neg q] at e; cases e
    | _ => cases e
  | _ => cases e
theorem i_make {C : Addr} {sp : Sp} {dvs : List V} {E : XK} {t : TA} {σ : L2.St} {H : Hp} {Q : VK} (q : t σ H fun vs H1 => ∀ x dx, H1 x = none → H1 dx = none → dx ≠ x → sp (.ref x :: (vs ++ dvs)) (upd (upd H1 dx (.own x)) x (.ins C dx [])) (fun v H2 => v = .non ∧ Q (.ref x) H2) E) : tMake C sp dvs E t σ H Q := q
end Me
set_option maxHeartbeats 8000000
namespace Me
open PySem L2


/-- values that are the same, to a depth -/
def Sm (H : Hp) : Nat → V → V → Prop
  | 0, x, y => x = y ∧ flatV x = true
  | n + 1, x, y => (x = y ∧ flatV x = true) ∨ ∃ p q xs ys, x = .ref p ∧ y = .ref q ∧ ((H p = some (.tup xs) ∧ H q = some (.tup ys)) ∨ (H p = some (.lst xs) ∧ H q = some (.lst ys))) ∧ xs.length = ys.length ∧ xs.length ≤ 1000 ∧
    ∀ (i : Nat) x y, xs[i]? = some x → ys[i]? = some y → Sm H n x y
end Me
local macro_rules | `(tactic| walk_at "go3") => `(tactic| repeat (first | walk_at "go1" | (with_reducible refine And.intro (a := L2.V.non = L2.V.non) rfl ?_) | ((with_reducible refine' Me.i_yes ?_ ?_); (first | rfl | exact decide_eq_true rfl)) | ((with_reducible refine' Me.i_no ?_ ?_); (first | rfl | (simp; done)))))
namespace Me
open PySem L2
section
variable {P : Program} {w : World} {K : PySem.W.Frag} {mg : Str → Option Value} {base : Heap} {a : Ad}
def spSame (n : Nat) : Sp := fun vs H Q _ => ∃ x y, vs = [x, y] ∧ Sm H n x y ∧ Q (.bl true) H
theorem Sm.ways {H : Hp} {n : Nat} {x y : V} (h : Sm H n x y) : (x = y ∧ flatV x = true) ∨ ∃ m, n = m + 1 ∧ ∃ p q xs ys, x = .ref p ∧ y = .ref q ∧ ((H p = some (.tup xs) ∧ H q = some (.tup ys)) ∨ (H p = some (.lst xs) ∧ H q = some (.lst ys))) ∧ xs.length = ys.length ∧ xs.length ≤ 1000 ∧
    ∀ (i : Nat) x y, xs[i]? = some x → ys[i]? = some y → Sm H m x y := by
  cases n with
  | zero => exact .inl h
  | succ m =>
    rcases h with h | ⟨p, q, xs, ys, h⟩
    · exact .inl h
    · exact .inr ⟨m, rfl, p, q, xs, ys, h⟩
theorem same_step (T : Txt K mg a) (n : Nat) {sp : Sp} (G__law_same : FnOk P w K mg base CX0 (n + 1) a._law_same.f a._law_same.fd ["_law_told_here", "_law_due"] sp) (hsp : ∀ m, n = m + 1 → ∀ vs H Q E, spSame m vs H Q E → sp vs H Q E) :
    FnOk P w K mg base CX0 (n + 2) a._law_same.f a._law_same.fd ["_law_told_here", "_law_due"] (spSame n) := by
    have G__law_is_int : FnOk P w K mg base CX0 1 a._law_is_int.f a._law_is_int.fd ["_law_told_here"] spIsInt := ok_law_is_int T
    have sc : FnScope ["_law_told_here", "_law_due", "_law_k"] ["_law_told_here", "_law_due"] (defScope (top 30)) := ⟨rfl, rfl, rfl, by decide +kernel, rfl, by decide +kernel, by decide +kernel⟩
    refine T._law_same.ok sc (fun vs H Q E h => ?_) (fun cdv A outer s H vs Q E hr h => ?_)
    · obtain ⟨x, y, rfl, _⟩ := h
      rfl
    · obtain ⟨x, y, rfl, he, k⟩ := h
      refine ⟨_, (pss_cons (ps_if (pt_cmpR op_isN (pv 1) pe_non (nomark _))
      (pss_one (ps_ret (pe_cmpR op_isN (pv 0) pe_non (nomark _))))
      pss_nil)
      (pss_cons (ps_if (pt_val (pe_callB call_isi (by rfl) T.isinstance (by decide +kernel) (pa_cons (pv 1) (pa_cons (pe_bltn (v := .ty "bool") (by rfl) T.bool (by decide +kernel) rfl) pa_nil))))
      (pss_one (ps_ret (pe_and (pe_callB call_isi (by rfl) T.isinstance (by decide +kernel) (pa_cons (pv 0) (pa_cons (pe_bltn (v := .ty "bool") (by rfl) T.bool (by decide +kernel) rfl) pa_nil))) (pe_one (pe_cmpR op_eq (pv 0) (pv 1) (nomark _))))))
      pss_nil)
      (pss_cons (ps_if (pt_val (pe_callB call_isi (by rfl) T.isinstance (by decide +kernel) (pa_cons (pv 1) (pa_cons (pe_bltn (v := .ty "int") (by rfl) T.int (by decide +kernel) rfl) pa_nil))))
      (pss_one (ps_ret (pe_and (pe_call G__law_is_int (hr.mono (by first | decide | omega)) rfl T._law_is_int.mg T._law_is_int.kp T._law_is_int.b .nil pass0 (pa_cons (pv 0) pa_nil)) (pe_one (pe_cmpR op_eq (pv 0) (pv 1) (nomark _))))))
      pss_nil)
      (pss_cons (ps_if (pt_val (pe_callB call_isi (by rfl) T.isinstance (by decide +kernel) (pa_cons (pv 1) (pa_cons (pe_bltn (v := .ty "str") (by rfl) T.str (by decide +kernel) rfl) pa_nil))))
      (pss_one (ps_ret (pe_and (pe_callB call_isi (by rfl) T.isinstance (by decide +kernel) (pa_cons (pv 0) (pa_cons (pe_bltn (v := .ty "str") (by rfl) T.str (by decide +kernel) rfl) pa_nil))) (pe_one (pe_cmpR op_eq (pv 0) (pv 1) (nomark _))))))
      pss_nil)
      (pss_cons (ps_if (pt_val (pe_callB call_isi (by rfl) T.isinstance (by decide +kernel) (pa_cons (pv 1) (pa_cons (pe_bltn (v := .ty "dict") (by rfl) T.dict (by decide +kernel) rfl) pa_nil))))
      (pss_one ps_never)
      pss_nil)
      (pss_cons (ps_if (PW.pt (pw_and (pt_val (pe_callB call_isi (by rfl) T.isinstance (by decide +kernel) (pa_cons (pv 1) (pa_cons (pe_bltn (v := .ty "list") (by rfl) T.list (by decide +kernel) rfl) pa_nil)))) (pw_and1 (pt_not (pt_val (pe_callB call_isi (by rfl) T.isinstance (by decide +kernel) (pa_cons (pv 0) (pa_cons (pe_bltn (v := .ty "list") (by rfl) T.list (by decide +kernel) rfl) pa_nil))))))))
      (pss_one (ps_ret pe_bl))
      pss_nil)
      (pss_cons (ps_if (PW.pt (pw_and (pt_val (pe_callB call_isi (by rfl) T.isinstance (by decide +kernel) (pa_cons (pv 1) (pa_cons (pe_bltn (v := .ty "tuple") (by rfl) T.tuple (by decide +kernel) rfl) pa_nil)))) (pw_and1 (pt_not (pt_val (pe_callB call_isi (by rfl) T.isinstance (by decide +kernel) (pa_cons (pv 0) (pa_cons (pe_bltn (v := .ty "tuple") (by rfl) T.tuple (by decide +kernel) rfl) pa_nil))))))))
      (pss_one (ps_ret pe_bl))
      pss_nil)
      (pss_cons (ps_if (pt_cmpR op_ne (pe_callB call_len_seq (by rfl) T.len PySem.boot_len (pa_cons (pv 0) pa_nil)) (pe_callB call_len_seq (by rfl) T.len PySem.boot_len (pa_cons (pv 1) pa_nil)) (nomark _))
      (pss_one (ps_ret pe_bl))
      pss_nil)
      (pss_cons (ps_for PassesOwn.never rfl (pi_range1 rfl T.range (pa_cons (pe_callB call_len_seq (by rfl) T.len PySem.boot_len (pa_cons (pv 1) pa_nil)) pa_nil)) (pg_name (i := 2) sc.nd rfl (by first | exact Or.inl rfl | exact Or.inr rfl))
      (pss_one (ps_if (pt_not (pt_val (pe_call G__law_same (hr.mono (by first | decide | omega)) rfl T._law_same.mg T._law_same.kp T._law_same.b .nil pass0 (pa_cons (pe_ix ix_seq (pv 0) (pv 2) (fun _ _ => rfl)) (pa_cons (pe_ix ix_seq (pv 1) (pv 2) (fun _ _ => rfl)) pa_nil)))))
      (pss_one (ps_ret pe_bl))
      pss_nil)))
      (pss_one (ps_ret pe_bl))))))))))), ?_⟩
      rcases he.ways with ⟨rfl, fx⟩ | ⟨m, hm, p, q, xs, ys, rfl, rfl, hpq, hl, hs, hx⟩
      · cases x with
        | non =>
          walk_at "go3"
          exact k
        | bl b =>
          walk_at "go3"
          rw [decide_eq_true rfl]
          exact k
        | int i =>
          walk_at "go3"
          refine ⟨_, rfl, .int i, ?_⟩
          walk_at "go3"
          rw [decide_eq_true rfl]
          exact k
        | str z =>
          walk_at "go3"
          rw [decide_eq_true rfl]
          exact k
        | _ => cases fx
      · have hl2 : (V.int (xs.length : Int)) = V.int (ys.length : Int) := by rw [hl]
        have at_ : ∀ {zs : List V} {i : Nat}, i < zs.length → ∃ v, zs[i]? = some v := fun {zs i} h => ⟨zs[i], List.getElem?_eq_getElem h⟩
        have fin : tSeq (tFor (iRng1 (tCons (tCB (fun xs H_1 Q => ∃ p ys, xs = [V.ref p] ∧ (SqL K H_1 p ys ∨ SqT K H_1 p ys) ∧ Q (V.int ys.length) H_1) (tCons (tVar 1) tNil)) tNil)) (gName 2)
            (tIfS (tNot (tB (tCall sp [] E0 (tCons (tOp (rIx K) (tVar 0) (tVar 2)) (tCons (tOp (rIx K) (tVar 1) (tVar 2)) tNil))))) (tRet (tC (V.bl false))) tNext)) (tRet (tC (V.bl true)))
            { nx := fun _ H' => Q .non H', rt := Q } (L2.start ["_law_told_here", "_law_due", "_law_k"] [.ref p, .ref q]) H := by
          have sq : SqL K H q ys ∨ SqT K H q ys := by
            rcases hpq with ⟨_, hq⟩ | ⟨_, hq⟩
            · exact .inr (SqT.of hq)
            · exact .inl (SqL.of hq)
          refine ⟨_, rfl, q, ys, rfl, sq, (ys.length : Int), rfl, by omega, by omega, for_range (n := ys.length) (fun _ σ H' => H' = H ∧ ∃ v, σ = [some (.ref p), some (.ref q), v]) ⟨rfl, none, rfl⟩ ?_ ?_⟩
          · rintro i σ H1 hi ⟨rfl, v, rfl⟩
            obtain ⟨y, hy⟩ := at_ hi
            obtain ⟨x, hx'⟩ := at_ (zs := xs) (i := i) (by omega)
            have go2 : ∀ (R : VK), (∀ v, v = x → R v H1) → rIx K (.ref p) (.int (0 + (i : Int))) H1 R := fun R k => by
              rw [Int.zero_add]
              rcases hpq with ⟨hp, _⟩ | ⟨hp, _⟩
              · exact .inr (.inl ⟨p, xs, i, x, rfl, rfl, SqT.of hp, atI_nat hx', k x rfl⟩)
              · exact .inl ⟨p, xs, i, x, rfl, rfl, SqL.of hp, atI_nat hx', k x rfl⟩
            have go4 : ∀ (R : VK), (∀ v, v = y → R v H1) → rIx K (.ref q) (.int (0 + (i : Int))) H1 R := fun R k => by
              rw [Int.zero_add]
              rcases hpq with ⟨_, hq⟩ | ⟨_, hq⟩
              · exact .inr (.inl ⟨q, ys, i, y, rfl, rfl, SqT.of hq, atI_nat hy, k y rfl⟩)
              · exact .inl ⟨q, ys, i, y, rfl, rfl, SqL.of hq, atI_nat hy, k y rfl⟩
            refine ⟨_, rfl, _, rfl, go2 _ fun x' ex => ⟨_, rfl, _, rfl, go4 _ fun y' ey => ?_⟩⟩
            subst ex
            subst ey
            refine hsp m hm _ _ _ _ ⟨_, _, rfl, hx i _ _ hx' hy, true, rfl, ?_⟩
            refine i_no rfl ?_
            exact ⟨rfl, _, rfl⟩
          · rintro σ H1 ⟨rfl, v, rfl⟩
            exact k
        rcases hpq with ⟨hp, hq⟩ | ⟨hp, hq⟩
        · walk_at "go3"
          refine i_no (by rw [decide_eq_true hl2]; rfl) ?_
          exact fin
        · walk_at "go3"
          refine i_no (by rw [decide_eq_true hl2]; rfl) ?_
          exact fin
theorem ok_same (T : Txt K mg a) : ∀ n, FnOk P w K mg base CX0 (n + 2) a._law_same.f a._law_same.fd ["_law_told_here", "_law_due"] (spSame n)
  | 0 => same_step T 0 (sp := fun _ _ _ _ => False) ⟨fun _ _ _ _ h => h.elim, fun _ _ _ _ _ _ _ _ _ _ _ _ _ h => h.elim⟩ fun _ h => by omega
  | n + 1 => same_step T (n + 1) (ok_same T n) fun m h vs H Q E q => by
    have e : m = n := by omega
    subst e
    exact q
end
end Me
set_option maxHeartbeats 8000000
namespace Me
open PySem L2


def bitB (c : Nat) : Bool := decide (c = 48) || decide (c = 49)
def wordV : V → Bool
  | .str z => (decide (1 ≤ z.length) && decide (z.length ≤ 8)) && z.cps.toList.all bitB
  | _ => false
def bitsV : V → Bool
  | .str z => z.cps.toList.all bitB
  | _ => false
theorem goes01 (c : Nat) : (Str.ofString "01").cps.contains c = bitB c := by
  have e : (Str.ofString "01").cps = #[48, 49] := by decide +kernel
  rw [e]
  unfold bitB
  by_cases h : c = 48
  · subst h; simp
  · by_cases h2 : c = 49
    · subst h2; simp
    · rw [decide_eq_false h, decide_eq_false h2]
      simp [h, h2]
theorem strip01 (z : Str) : decide (V.str (Txt.stripChars z "01") = V.str "") = z.cps.toList.all bitB := by
  have eg : (Str.ofString "01").cps.contains = bitB := funext goes01
  have e1 : Txt.stripChars z "01" = Builtin.Str.strSub z (stripLo bitB true z) (stripHi bitB true z (stripLo bitB true z)) := by
    rw [← eg]; exact PyProof.Rows.stripBy_eq _ _ _ _
  obtain ⟨l1, l2, l3⟩ := PyProof.Rows.lo_facts bitB z
  obtain ⟨h1, h2, h3, h4⟩ := PyProof.Rows.hi_facts bitB z _ l1
  have len : (Txt.stripChars z "01").length = stripHi bitB true z (stripLo bitB true z) - stripLo bitB true z := by rw [e1]; exact size_strSub _ _ _ h2
  have at_ : ∀ k, k < z.length → (h : k < z.cps.toList.length) → z.cps.getD k 0 = z.cps.toList[k] := fun k hk h => by
    rw [← PyProof.Rows.getD_list]
    rw [List.getD, List.getElem?_eq_getElem h]; rfl
  have ln : z.cps.toList.length = z.length := by simp [Str.length]
  by_cases h : z.cps.toList.all bitB = true
  · rw [h]
    refine decide_eq_true ?_
    have all : ∀ k, k < z.length → bitB (z.cps.getD k 0) = true := fun k hk => by
      rw [at_ k hk (by omega)]
      exact List.all_eq_true.mp h _ (List.getElem_mem _)
    have lo : stripLo bitB true z = z.length := by
      rcases l3 with l3 | l3
      · exact l3
      · by_cases q : stripLo bitB true z < z.length
        · rw [all _ q] at l3; cases l3
        · omega
    have z0 : (Txt.stripChars z "01").length = 0 := by omega
    congr 1
    generalize Txt.stripChars z "01" = u at z0
    cases u with
    | mk c =>
      have : c = #[] := Array.eq_empty_of_size_eq_zero z0
      rw [this]; rfl
  · rw [Bool.eq_false_iff.mpr h]
    refine decide_eq_false fun q => h ?_
    have q := V.str.inj q
    have z0 : (Txt.stripChars z "01").length = 0 := by rw [q]; rfl
    refine List.all_eq_true.mpr fun c hc => ?_
    obtain ⟨k, hk, rfl⟩ := List.mem_iff_getElem.mp hc
    rw [← at_ k (by omega) hk]
    by_cases r : k < stripLo bitB true z
    · exact l2 k r
    · exact h3 k (by omega) (by omega)
def chkBad (w n : V) : Option Str := if wordV w = true then (if nameV n = true then none else some ("name" : Str)) else some ("word" : Str)
def Sh (v : V) : Prop := ∀ z, v = .str z → z.length ≤ 100
section
variable {P : Program} {w : World} {K : PySem.W.Frag} {mg : Str → Option Value} {base : Heap} {a : Ad}
def spBits : Sp := fun vs H Q _ => ∃ x, vs = [x] ∧ Th H x ∧ Sh x ∧ Q (.bl (bitsV x)) H
theorem ok_bits (T : Txt K mg a) : FnOk P w K mg base CX0 1 a.is_bits.f a.is_bits.fd ["thing"] spBits := by
  have sc : FnScope ["thing"] ["thing"] (defScope (top 4)) := ⟨rfl, rfl, rfl, by decide +kernel, rfl, by decide +kernel, by decide +kernel⟩
  refine T.is_bits.ok sc (fun vs H Q E h => ?_) (fun cdv A outer s H vs Q E hr h => ?_)
  · obtain ⟨x, rfl, _⟩ := h
    rfl
  · obtain ⟨x, rfl, hx, hz, k⟩ := h
    refine ⟨_, (pss_one (ps_ret (pe_and (pe_callB call_isi (by rfl) T.isinstance (by decide +kernel) (pa_cons (pv 0) (pa_cons (pe_bltn (v := .ty "str") (by rfl) T.str (by decide +kernel) rfl) pa_nil))) (pe_one (pe_cmpR op_eq (pe_m1 F.slot_str_strip F.type_str_strip mt_stripChars (pv 0) pe_str rfl rfl rfl) pe_str (nomark _)))))), ?_⟩
    cases hx with
    | str z =>
      walk_at "go"
      refine i_m1 ?_
      walk_at "go"
      refine ⟨⟨_, rfl⟩, _, _, rfl, rfl, Nat.le_trans (hz z rfl) (by decide), ?_⟩
      walk_at "go"
      have e := strip01 z
      have k : Q (V.bl (z.cps.toList.all bitB)) H := k
      rw [← e] at k
      exact k
    | _ => (walk_at "go"; exact k)
def spWd (hp : Prop) : Sp := fun vs H Q _ => ∃ x, vs = [x] ∧ Th H x ∧ Sh x ∧ Q (.bl (wordV x)) H
theorem ok_wd (T : Txt K mg a) : FnOk P w K mg base CX0 2 a.is_word.f a.is_word.fd ["thing"] (spWd True) := by
  have G_is_bits : FnOk P w K mg base CX0 1 a.is_bits.f a.is_bits.fd ["thing"] spBits := ok_bits T
  have sc : FnScope ["thing"] ["thing"] (defScope (top 5)) := ⟨rfl, rfl, rfl, by decide +kernel, rfl, by decide +kernel, by decide +kernel⟩
  refine T.is_word.ok sc (fun vs H Q E h => ?_) (fun cdv A outer s H vs Q E hr h => ?_)
  · obtain ⟨x, rfl, _⟩ := h
    rfl
  · obtain ⟨x, rfl, hx, hz, k⟩ := h
    refine ⟨_, (pss_one (ps_ret (pe_and (pe_call G_is_bits (hr.mono (by first | decide | omega)) rfl T.is_bits.mg T.is_bits.kp T.is_bits.b .nil pass0 (pa_cons (pv 0) pa_nil)) (pe_one (pe_chain op_le op_le pe_int (pe_callB call_len_str (by rfl) T.len PySem.boot_len (pa_cons (pv 0) pa_nil)) pe_int))))), ?_⟩
    walk_at "go"
    refine ⟨x, rfl, hx, hz, ?_⟩
    cases hx with
    | str z =>
      refine ⟨_, rfl, ?_⟩
      have kk : Q (V.bl ((decide (1 ≤ z.length) && decide (z.length ≤ 8)) && z.cps.toList.all bitB)) H := k
      refine i_itb (fun h => ?_) (fun h => ?_)
      · have h : z.cps.toList.all bitB = true := h
        rw [h, Bool.and_true] at kk
        refine i_chain ?_
        walk_at "go"
        refine ⟨z, rfl, Nat.le_trans (hz z rfl) (by decide), ?_⟩
        walk_at "go"
        refine i_itd (fun h1 => ?_) (fun h1 => ?_)
        · walk_at "go"
          rw [decide_eq_true (show 1 ≤ z.length by omega), Bool.true_and] at kk
          have e : decide ((z.length : Int) ≤ 8) = decide (z.length ≤ 8) := by
            by_cases q : z.length ≤ 8
            · rw [decide_eq_true q]; exact decide_eq_true (by omega)
            · rw [decide_eq_false q]; exact decide_eq_false (by omega)
          rw [e]
          exact kk
        · rw [decide_eq_false (show ¬ 1 ≤ z.length by omega), Bool.false_and] at kk
          exact kk
      · have h : z.cps.toList.all bitB = false := h
        rw [h, Bool.and_false] at kk
        exact kk
    | _ => exact ⟨_, rfl, i_no rfl k⟩
end
end Me
set_option maxHeartbeats 8000000
namespace Me
open PySem L2


def wayBad (w n : V) (i : Option Nat) : Option Str := match chkBad w n with | some z => some z | none => if isK i [1, 2, 4, 3] = true ∨ i = some 0 then none else some ("kind" : Str)
def doorBad (w n y : V) (i : Option Nat) : Option Str := match chkBad w n with | some z => some z | none => if y = .non ∨ isK i [1, 2, 4, 3] = true ∨ i = some 0 then none else some ("kind" : Str)
def roomBad (w n y : V) (i : Option Nat) : Option Str := match chkBad w n with | some z => some z | none => if y = .non ∨ isK i [1, 2, 4, 3] = true then none else some ("kind" : Str)
def partBad (n : V) (i : Option Nat) : Option Str := if nameV n = true then (if isK i [1, 2, 4, 3] = true then none else some ("kind" : Str)) else some ("name" : Str)
section
variable {P : Program} {w : World} {K : PySem.W.Frag} {mg : Str → Option Value} {base : Heap} {a : Ad}
def spSimple (a : Ad) : Sp := fun vs H Q _ => ∃ x i, vs = [x] ∧ Itm a H x i ∧ ∀ H', Same H H' → Q (.bl (isK i [1, 2, 4, 3])) H'
theorem ok_simple (T : Txt K mg a) : FnOk P w K mg base CX0 1 a.is_simple.f a.is_simple.fd ["thing"] (spSimple a) := by
  have sc : FnScope ["thing"] ["thing"] (defScope (top 15)) := ⟨rfl, rfl, rfl, by decide +kernel, rfl, by decide +kernel, by decide +kernel⟩
  refine T.is_simple.ok sc (fun vs H Q E h => ?_) (fun cdv A outer s H vs Q E hr h => ?_)
  · obtain ⟨x, i, rfl, _⟩ := h
    rfl
  · obtain ⟨x, i, rfl, hx, k⟩ := h
    refine ⟨_, (pss_one (ps_ret (pe_callB call_isiT (by rfl) T.isinstance (by decide +kernel) (pa_cons (pv 0) (pa_cons (pe_tup (pa_cons (pe_glob (v := .ref (a.C 1)) rfl (T.kc 1 (by decide)).gl rfl) (pa_cons (pe_glob (v := .ref (a.C 2)) rfl (T.kc 2 (by decide)).gl rfl) (pa_cons (pe_glob (v := .ref (a.C 4)) rfl (T.kc 4 (by decide)).gl rfl) (pa_cons (pe_glob (v := .ref (a.C 3)) rfl (T.kc 3 (by decide)).gl rfl) pa_nil))))) pa_nil))))), ?_⟩
    walk_at "go"
    rename_i tp ntp
    have s1 := same_new (o := .tup [.ref (a.C 1), .ref (a.C 2), .ref (a.C 4), .ref (a.C 3)]) same_rfl ntp
    exact i_isT T [1, 2, 4, 3] (by decide) (hx.same s1) upd_same (k _ s1)
/-- None, or bad part z -/
def Chk (bad : Addr) (r : Option Str) (H : Hp) (Q : VK) (E : XK) : Prop := (r = none → ∀ H', Same H H' → Q .non H') ∧ ∀ z, r = some z → ∀ d H', Same H H' → H' d = some (.xd [("part", .str z)]) → E (.ref bad) (some d) H'
theorem Chk.bad {bad : Addr} {r : Option Str} {H H1 : Hp} {Q : VK} {E : XK} {z : Str} (k : Chk bad r H Q E) (e : r = some z) (s : Same H H1) : badW bad z E H1 := fun d n => k.2 z e d _ (same_new s n) upd_same
def spCheck (a : Ad) : Sp := fun vs H Q E => ∃ x y, vs = [x, y] ∧ Th H x ∧ Sh x ∧ Th H y ∧ Sh y ∧ Chk a.bad (chkBad x y) H Q E
theorem ok_check (T : Txt K mg a) : FnOk P w K mg base (L2.CX P w) 3 a.check_word_and_name.f a.check_word_and_name.fd ["word", "name"] (spCheck a) := by
  have G_is_word : FnOk P w K mg base CX0 2 a.is_word.f a.is_word.fd ["thing"] (spWd True) := ok_wd T
  have G_is_name : FnOk P w K mg base CX0 1 a.is_name.f a.is_name.fd ["thing"] (spIsName True) := ok_is_name T
  have sc : FnScope ["word", "name"] ["word", "name"] (defScope (top 22)) := ⟨rfl, rfl, rfl, by decide +kernel, rfl, by decide +kernel, by decide +kernel⟩
  refine T.check_word_and_name.okX sc (fun vs H Q E h => ?_) (fun cdv A outer s H vs Q E hr h => ?_)
  · obtain ⟨x, y, rfl, _⟩ := h
    rfl
  · obtain ⟨x, y, rfl, hx, sx, hy, sy, k⟩ := h
    have tk : Takes (cxOf (L2.CX P w) P w K mg base ["word", "name"] "check_word_and_name" (defScope (top 22)) a.check_word_and_name.f cdv A outer s H E) (fun cls d _ H => E cls d H) := takes_of rfl rfl rfl rfl
    refine ⟨_, (pss_cons (ps_if (pt_not (pt_val (pe_call G_is_word (hr.mono (by first | decide | omega)) rfl T.is_word.mg T.is_word.kp T.is_word.b .nil pass0 (pa_cons (pv 0) pa_nil))))
      (pss_one (ps_bad T.bad rfl (hr.mono (by decide)) tk))
      pss_nil)
      (pss_one (ps_if (pt_not (pt_val (pe_call G_is_name (hr.mono (by first | decide | omega)) rfl T.is_name.mg T.is_name.kp T.is_name.b .nil pass0 (pa_cons (pv 1) pa_nil))))
      (pss_one (ps_bad T.bad rfl (hr.mono (by decide)) tk))
      pss_nil))), ?_⟩
    walk_at "go"
    refine ⟨x, rfl, hx, sx, ?_⟩
    refine ⟨_, rfl, ?_⟩
    refine i_itb (fun h1 => ?_) (fun h1 => ?_)
    · exact k.bad (if_neg (fun z => by rw [z] at h1; cases h1)) same_rfl
    · have h1 : wordV x = true := by revert h1; cases wordV x <;> simp
      walk_at "go"
      refine ⟨y, rfl, hy, sy, fun H1 s1 => ?_⟩
      refine ⟨_, rfl, ?_⟩
      refine i_itb (fun h2 => ?_) (fun h2 => ?_)
      · refine k.bad (z := "name") ?_ s1
        unfold chkBad
        rw [if_pos h1, if_neg (fun z => by rw [z] at h2; cases h2)]
      · have h2 : nameV y = true := by revert h2; cases nameV y <;> simp
        refine k.1 ?_ _ s1
        unfold chkBad
        rw [if_pos h1, if_pos h2]
def spWay (a : Ad) : Sp := fun vs H Q E => ∃ x dx wd nm y i, vs = [.ref x, wd, nm, y] ∧ H x = some (.ins (a.C 5) dx []) ∧ Th H wd ∧ Sh wd ∧ Th H nm ∧ Sh nm ∧ Itm a H y i ∧ SpI (a.C 5) a.bad (wayBad wd nm i) [("word", wd), ("name", nm), ("kind", y)] x dx H Q E
theorem ok_Way (T : Txt K mg a) : FnOk P w K mg base (L2.CX P w) 4 (a.I 5).f (a.I 5).fd ["self", "word", "name", "kind"] (spWay a) := by
  have G_check_word_and_name : FnOk P w K mg base (L2.CX P w) 3 a.check_word_and_name.f a.check_word_and_name.fd ["word", "name"] (spCheck a) := ok_check T
  have G_is_simple : FnOk P w K mg base CX0 1 a.is_simple.f a.is_simple.fd ["thing"] (spSimple a) := ok_simple T
  have sc : FnScope ["self", "word", "name", "kind"] ["self", "word", "name", "kind"] (defScope (inClass (top 16) 0)) := ⟨rfl, rfl, rfl, by decide +kernel, rfl, by decide +kernel, by decide +kernel⟩
  refine ok0x T.I5 sc (fun vs H Q E h => ?_) (fun cdv A outer s H vs Q E hr h => ?_)
  · obtain ⟨x, dx, wd, nm, y, i, rfl, _⟩ := h
    rfl
  · obtain ⟨x, dx, wd, nm, y, i, rfl, hx, hw, sw, hn, sn, hy, k⟩ := h
    have tk : Takes (cxOf (L2.CX P w) P w K mg base ["self", "word", "name", "kind"] "Way.__init__" (defScope (inClass (top 16) 0)) (a.I 5).f cdv A outer s H E) (fun cls d _ H => E cls d H) := takes_of rfl rfl rfl rfl
    have kc := T.kc 5 (by decide)
    refine ⟨_, (pss_cons (ps_expr (pe_call G_check_word_and_name (hr.mono (by first | decide | omega)) rfl T.check_word_and_name.mg T.check_word_and_name.kp T.check_word_and_name.b .nil (passes_call tk (fun _ _ _ _ h => h)) (pa_cons (pv 1) (pa_cons (pv 2) pa_nil))))
      (pss_cons (ps_if (PW.pt (pw_and (pt_not (pt_val (pe_call G_is_simple (hr.mono (by first | decide | omega)) rfl T.is_simple.mg T.is_simple.kp T.is_simple.b .nil pass0 (pa_cons (pv 3) pa_nil)))) (pw_and1 (pt_not (pt_val (pe_callB call_isi (by rfl) T.isinstance (by decide +kernel) (pa_cons (pv 3) (pa_cons (pe_glob (v := .ref (a.C 0)) rfl (T.kc 0 (by decide)).gl rfl) pa_nil))))))))
      (pss_one (ps_bad T.bad rfl (hr.mono (by decide)) tk))
      pss_nil)
      (pss_cons (ps_fld (pv 0) (pv 1) rfl)
      (pss_cons (ps_fld (pv 0) (pv 2) rfl)
      (pss_one (ps_fld (pv 0) (pv 3) rfl)))))), ?_⟩
    walk_at "go"
    refine ⟨wd, nm, rfl, hw, sw, hn, sn, fun e H1 s1 => ?_, fun z e d H1 s1 hd => ?_⟩
    · have ek : wayBad wd nm i = if isK i [1, 2, 4, 3] = true ∨ i = some 0 then none else some ("kind" : Str) := by unfold wayBad; rw [e]
      rw [ek] at k
      have fin : (isK i [1, 2, 4, 3] = true ∨ i = some 0) → ∀ H2, Same H H2 → tSeq (sFld K (tVar 0) (tVar 1) "word") (tSeq (sFld K (tVar 0) (tVar 2) "name") (sFld K (tVar 0) (tVar 3) "kind")) { nx := fun _ H' => Q .non H', rt := Q } (L2.start ["self", "word", "name", "kind"] [.ref x, wd, nm, y]) H2 := fun e H2 s2 => by
        walk_at "go"
        refine i_sfld ?_
        walk_at "go"
        refine ⟨x, _, dx, [], rfl, s2 _ _ hx, kc.cl, kc.no _ (by decide), by decide, ?_⟩
        dsimp only
        refine i_sfld ?_
        walk_at "go"
        refine ⟨x, _, dx, [("word", wd)], rfl, upd_same, kc.cl, kc.no _ (by decide), (by show (1 : Nat) < 1000; decide), ?_⟩
        dsimp only
        refine i_sfld ?_
        walk_at "go"
        refine ⟨x, _, dx, [("word", wd), ("name", nm)], rfl, upd_same, kc.cl, kc.no _ (by decide), (by show (2 : Nat) < 1000; decide), ?_⟩
        exact k.1 (if_pos e) _ (Kept.upd (Kept.upd (Kept.upd fun b o _ e => s2 b o e))) upd_same
      walk_at "go"
      refine ⟨_, _, rfl, hy.same s1, fun H2 s2 => ?_⟩
      walk_at "go"
      refine i_itb (fun h1 => ?_) (fun h1 => ?_)
      · have h1 : isK i [1, 2, 4, 3] = false := by revert h1; cases isK i [1, 2, 4, 3] <;> simp
        walk_at "go"
        have s12 := s1.trans s2
        refine i_isC T (by decide) (hy.same s12) ?_
        walk_at "go"
        refine i_itn (fun h2 => ?_) (fun h2 => ?_)
        · exact k.bad (if_neg (fun z => z.elim (fun z => by rw [h1] at z; cases z) h2)) s12
        · exact fin (.inr h2) _ s12
      · have h1 : isK i [1, 2, 4, 3] = true := by revert h1; cases isK i [1, 2, 4, 3] <;> simp
        exact fin (.inl h1) _ (s1.trans s2)
    · refine k.2 z ?_ d H1 s1 hd
      unfold wayBad; rw [e]
def spDoor (a : Ad) : Sp := fun vs H Q E => ∃ x dx wd nm y i, vs = [.ref x, wd, nm, y] ∧ H x = some (.ins (a.C 6) dx []) ∧ Th H wd ∧ Sh wd ∧ Th H nm ∧ Sh nm ∧ Itm a H y i ∧ SpI (a.C 6) a.bad (doorBad wd nm y i) [("word", wd), ("name", nm), ("kind", y)] x dx H Q E
theorem ok_Door (T : Txt K mg a) : FnOk P w K mg base (L2.CX P w) 4 (a.I 6).f (a.I 6).fd ["self", "word", "name", "kind"] (spDoor a) := by
  have G_check_word_and_name : FnOk P w K mg base (L2.CX P w) 3 a.check_word_and_name.f a.check_word_and_name.fd ["word", "name"] (spCheck a) := ok_check T
  have G_is_simple : FnOk P w K mg base CX0 1 a.is_simple.f a.is_simple.fd ["thing"] (spSimple a) := ok_simple T
  have sc : FnScope ["self", "word", "name", "kind"] ["self", "word", "name", "kind"] (defScope (inClass (top 17) 0)) := ⟨rfl, rfl, rfl, by decide +kernel, rfl, by decide +kernel, by decide +kernel⟩
  refine ok0x T.I6 sc (fun vs H Q E h => ?_) (fun cdv A outer s H vs Q E hr h => ?_)
  · obtain ⟨x, dx, wd, nm, y, i, rfl, _⟩ := h
    rfl
  · obtain ⟨x, dx, wd, nm, y, i, rfl, hx, hw, sw, hn, sn, hy, k⟩ := h
    have tk : Takes (cxOf (L2.CX P w) P w K mg base ["self", "word", "name", "kind"] "Door.__init__" (defScope (inClass (top 17) 0)) (a.I 6).f cdv A outer s H E) (fun cls d _ H => E cls d H) := takes_of rfl rfl rfl rfl
    have kc := T.kc 6 (by decide)
    refine ⟨_, (pss_cons (ps_expr (pe_call G_check_word_and_name (hr.mono (by first | decide | omega)) rfl T.check_word_and_name.mg T.check_word_and_name.kp T.check_word_and_name.b .nil (passes_call tk (fun _ _ _ _ h => h)) (pa_cons (pv 1) (pa_cons (pv 2) pa_nil))))
      (pss_cons (ps_if (PW.pt (pw_and (pt_cmpR op_notN (pv 3) pe_non (nomark _)) (pw_and (pt_not (pt_val (pe_call G_is_simple (hr.mono (by first | decide | omega)) rfl T.is_simple.mg T.is_simple.kp T.is_simple.b .nil pass0 (pa_cons (pv 3) pa_nil)))) (pw_and1 (pt_not (pt_val (pe_callB call_isi (by rfl) T.isinstance (by decide +kernel) (pa_cons (pv 3) (pa_cons (pe_glob (v := .ref (a.C 0)) rfl (T.kc 0 (by decide)).gl rfl) pa_nil)))))))))
      (pss_one (ps_bad T.bad rfl (hr.mono (by decide)) tk))
      pss_nil)
      (pss_cons (ps_fld (pv 0) (pv 1) rfl)
      (pss_cons (ps_fld (pv 0) (pv 2) rfl)
      (pss_one (ps_fld (pv 0) (pv 3) rfl)))))), ?_⟩
    walk_at "go"
    refine ⟨wd, nm, rfl, hw, sw, hn, sn, fun e H1 s1 => ?_, fun z e d H1 s1 hd => ?_⟩
    · have ek : doorBad wd nm y i = if y = .non ∨ isK i [1, 2, 4, 3] = true ∨ i = some 0 then none else some ("kind" : Str) := by unfold doorBad; rw [e]
      rw [ek] at k
      have fin : (y = .non ∨ isK i [1, 2, 4, 3] = true ∨ i = some 0) → ∀ H2, Same H H2 → tSeq (sFld K (tVar 0) (tVar 1) "word") (tSeq (sFld K (tVar 0) (tVar 2) "name") (sFld K (tVar 0) (tVar 3) "kind")) { nx := fun _ H' => Q .non H', rt := Q } (L2.start ["self", "word", "name", "kind"] [.ref x, wd, nm, y]) H2 := fun e H2 s2 => by
        walk_at "go"
        refine i_sfld ?_
        walk_at "go"
        refine ⟨x, _, dx, [], rfl, s2 _ _ hx, kc.cl, kc.no _ (by decide), by decide, ?_⟩
        dsimp only
        refine i_sfld ?_
        walk_at "go"
        refine ⟨x, _, dx, [("word", wd)], rfl, upd_same, kc.cl, kc.no _ (by decide), (by show (1 : Nat) < 1000; decide), ?_⟩
        dsimp only
        refine i_sfld ?_
        walk_at "go"
        refine ⟨x, _, dx, [("word", wd), ("name", nm)], rfl, upd_same, kc.cl, kc.no _ (by decide), (by show (2 : Nat) < 1000; decide), ?_⟩
        exact k.1 (if_pos e) _ (Kept.upd (Kept.upd (Kept.upd fun b o _ e => s2 b o e))) upd_same
      walk_at "go"
      refine ⟨rfl, _, rfl, ?_⟩
      refine i_itn (fun h0 => ?_) (fun h0 => ?_)
      · walk_at "go"
        refine ⟨_, _, rfl, hy.same s1, fun H2 s2 => ?_⟩
        walk_at "go"
        refine i_itb (fun h1 => ?_) (fun h1 => ?_)
        · have h1 : isK i [1, 2, 4, 3] = false := by revert h1; cases isK i [1, 2, 4, 3] <;> simp
          walk_at "go"
          have s12 := s1.trans s2
          refine i_isC T (by decide) (hy.same s12) ?_
          walk_at "go"
          refine i_itn (fun h2 => ?_) (fun h2 => ?_)
          · exact k.bad (if_neg (fun z => z.elim h0 fun z => z.elim (fun z => by rw [h1] at z; cases z) h2)) s12
          · exact fin (.inr (.inr h2)) _ s12
        · have h1 : isK i [1, 2, 4, 3] = true := by revert h1; cases isK i [1, 2, 4, 3] <;> simp
          exact fin (.inr (.inl h1)) _ (s1.trans s2)
      · exact fin (.inl h0) _ s1
    · refine k.2 z ?_ d H1 s1 hd
      unfold doorBad; rw [e]
def spRoom (a : Ad) : Sp := fun vs H Q E => ∃ x dx wd nm y i, vs = [.ref x, wd, nm, y] ∧ H x = some (.ins (a.C 8) dx []) ∧ Th H wd ∧ Sh wd ∧ Th H nm ∧ Sh nm ∧ Itm a H y i ∧ SpI (a.C 8) a.bad (roomBad wd nm y i) [("word", wd), ("name", nm), ("kind", y)] x dx H Q E
theorem ok_Room (T : Txt K mg a) : FnOk P w K mg base (L2.CX P w) 4 (a.I 8).f (a.I 8).fd ["self", "word", "name", "kind"] (spRoom a) := by
  have G_check_word_and_name : FnOk P w K mg base (L2.CX P w) 3 a.check_word_and_name.f a.check_word_and_name.fd ["word", "name"] (spCheck a) := ok_check T
  have G_is_simple : FnOk P w K mg base CX0 1 a.is_simple.f a.is_simple.fd ["thing"] (spSimple a) := ok_simple T
  have sc : FnScope ["self", "word", "name", "kind"] ["self", "word", "name", "kind"] (defScope (inClass (top 19) 0)) := ⟨rfl, rfl, rfl, by decide +kernel, rfl, by decide +kernel, by decide +kernel⟩
  refine ok0x T.I8 sc (fun vs H Q E h => ?_) (fun cdv A outer s H vs Q E hr h => ?_)
  · obtain ⟨x, dx, wd, nm, y, i, rfl, _⟩ := h
    rfl
  · obtain ⟨x, dx, wd, nm, y, i, rfl, hx, hw, sw, hn, sn, hy, k⟩ := h
    have tk : Takes (cxOf (L2.CX P w) P w K mg base ["self", "word", "name", "kind"] "Room.__init__" (defScope (inClass (top 19) 0)) (a.I 8).f cdv A outer s H E) (fun cls d _ H => E cls d H) := takes_of rfl rfl rfl rfl
    have kc := T.kc 8 (by decide)
    refine ⟨_, (pss_cons (ps_expr (pe_call G_check_word_and_name (hr.mono (by first | decide | omega)) rfl T.check_word_and_name.mg T.check_word_and_name.kp T.check_word_and_name.b .nil (passes_call tk (fun _ _ _ _ h => h)) (pa_cons (pv 1) (pa_cons (pv 2) pa_nil))))
      (pss_cons (ps_if (PW.pt (pw_and (pt_cmpR op_notN (pv 3) pe_non (nomark _)) (pw_and1 (pt_not (pt_val (pe_call G_is_simple (hr.mono (by first | decide | omega)) rfl T.is_simple.mg T.is_simple.kp T.is_simple.b .nil pass0 (pa_cons (pv 3) pa_nil)))))))
      (pss_one (ps_bad T.bad rfl (hr.mono (by decide)) tk))
      pss_nil)
      (pss_cons (ps_fld (pv 0) (pv 1) rfl)
      (pss_cons (ps_fld (pv 0) (pv 2) rfl)
      (pss_one (ps_fld (pv 0) (pv 3) rfl)))))), ?_⟩
    walk_at "go"
    refine ⟨wd, nm, rfl, hw, sw, hn, sn, fun e H1 s1 => ?_, fun z e d H1 s1 hd => ?_⟩
    · have ek : roomBad wd nm y i = if y = .non ∨ isK i [1, 2, 4, 3] = true then none else some ("kind" : Str) := by unfold roomBad; rw [e]
      rw [ek] at k
      have fin : (y = .non ∨ isK i [1, 2, 4, 3] = true) → ∀ H2, Same H H2 → tSeq (sFld K (tVar 0) (tVar 1) "word") (tSeq (sFld K (tVar 0) (tVar 2) "name") (sFld K (tVar 0) (tVar 3) "kind")) { nx := fun _ H' => Q .non H', rt := Q } (L2.start ["self", "word", "name", "kind"] [.ref x, wd, nm, y]) H2 := fun e H2 s2 => by
        walk_at "go"
        refine i_sfld ?_
        walk_at "go"
        refine ⟨x, _, dx, [], rfl, s2 _ _ hx, kc.cl, kc.no _ (by decide), by decide, ?_⟩
        dsimp only
        refine i_sfld ?_
        walk_at "go"
        refine ⟨x, _, dx, [("word", wd)], rfl, upd_same, kc.cl, kc.no _ (by decide), (by show (1 : Nat) < 1000; decide), ?_⟩
        dsimp only
        refine i_sfld ?_
        walk_at "go"
        refine ⟨x, _, dx, [("word", wd), ("name", nm)], rfl, upd_same, kc.cl, kc.no _ (by decide), (by show (2 : Nat) < 1000; decide), ?_⟩
        exact k.1 (if_pos e) _ (Kept.upd (Kept.upd (Kept.upd fun b o _ e => s2 b o e))) upd_same
      walk_at "go"
      refine ⟨rfl, _, rfl, ?_⟩
      refine i_itn (fun h0 => ?_) (fun h0 => ?_)
      · walk_at "go"
        refine ⟨_, _, rfl, hy.same s1, fun H2 s2 => ?_⟩
        refine ⟨_, rfl, ?_⟩
        refine i_itb (fun h1 => ?_) (fun h1 => ?_)
        · have h1 : isK i [1, 2, 4, 3] = false := by revert h1; cases isK i [1, 2, 4, 3] <;> simp
          exact k.bad (if_neg (fun z => z.elim h0 fun z => by rw [h1] at z; cases z)) (s1.trans s2)
        · have h1 : isK i [1, 2, 4, 3] = true := by revert h1; cases isK i [1, 2, 4, 3] <;> simp
          exact fin (.inr h1) _ (s1.trans s2)
      · exact fin (.inl h0) _ s1
    · refine k.2 z ?_ d H1 s1 hd
      unfold roomBad; rw [e]
def spPart (a : Ad) : Sp := fun vs H Q E => ∃ x dx nm y i, vs = [.ref x, nm, y] ∧ H x = some (.ins (a.C 7) dx []) ∧ Th H nm ∧ Sh nm ∧ Itm a H y i ∧ SpI (a.C 7) a.bad (partBad nm i) [("name", nm), ("kind", y)] x dx H Q E
theorem ok_Part (T : Txt K mg a) : FnOk P w K mg base (L2.CX P w) 4 (a.I 7).f (a.I 7).fd ["self", "name", "kind"] (spPart a) := by
  have G_is_name : FnOk P w K mg base CX0 1 a.is_name.f a.is_name.fd ["thing"] (spIsName True) := ok_is_name T
  have G_is_simple : FnOk P w K mg base CX0 1 a.is_simple.f a.is_simple.fd ["thing"] (spSimple a) := ok_simple T
  have sc : FnScope ["self", "name", "kind"] ["self", "name", "kind"] (defScope (inClass (top 18) 0)) := ⟨rfl, rfl, rfl, by decide +kernel, rfl, by decide +kernel, by decide +kernel⟩
  refine ok0x T.I7 sc (fun vs H Q E h => ?_) (fun cdv A outer s H vs Q E hr h => ?_)
  · obtain ⟨x, dx, nm, y, i, rfl, _⟩ := h
    rfl
  · obtain ⟨x, dx, nm, y, i, rfl, hx, hn, sn, hy, k⟩ := h
    have tk : Takes (cxOf (L2.CX P w) P w K mg base ["self", "name", "kind"] "Part.__init__" (defScope (inClass (top 18) 0)) (a.I 7).f cdv A outer s H E) (fun cls d _ H => E cls d H) := takes_of rfl rfl rfl rfl
    have kc := T.kc 7 (by decide)
    refine ⟨_, (pss_cons (ps_if (pt_not (pt_val (pe_call G_is_name (hr.mono (by first | decide | omega)) rfl T.is_name.mg T.is_name.kp T.is_name.b .nil pass0 (pa_cons (pv 1) pa_nil))))
      (pss_one (ps_bad T.bad rfl (hr.mono (by decide)) tk))
      pss_nil)
      (pss_cons (ps_if (pt_not (pt_val (pe_call G_is_simple (hr.mono (by first | decide | omega)) rfl T.is_simple.mg T.is_simple.kp T.is_simple.b .nil pass0 (pa_cons (pv 2) pa_nil))))
      (pss_one (ps_bad T.bad rfl (hr.mono (by decide)) tk))
      pss_nil)
      (pss_cons (ps_fld (pv 0) (pv 1) rfl)
      (pss_one (ps_fld (pv 0) (pv 2) rfl))))), ?_⟩
    walk_at "go"
    refine ⟨nm, rfl, hn, sn, fun H1 s1 => ?_⟩
    refine ⟨_, rfl, ?_⟩
    refine i_itb (fun h1 => ?_) (fun h1 => ?_)
    · exact k.bad (if_neg (fun z => by rw [z] at h1; cases h1)) s1
    · have h1 : nameV nm = true := by revert h1; cases nameV nm <;> simp
      have ek : partBad nm i = if isK i [1, 2, 4, 3] = true then none else some ("kind" : Str) := if_pos h1
      rw [ek] at k
      walk_at "go"
      refine ⟨_, _, rfl, hy.same s1, fun H2 s2 => ?_⟩
      have s12 := s1.trans s2
      refine ⟨_, rfl, ?_⟩
      refine i_itb (fun h2 => ?_) (fun h2 => ?_)
      · exact k.bad (if_neg (fun z => by rw [z] at h2; cases h2)) s12
      · have h2 : isK i [1, 2, 4, 3] = true := by revert h2; cases isK i [1, 2, 4, 3] <;> simp
        walk_at "go"
        dsimp only
        refine i_sfld ?_
        walk_at "go"
        refine ⟨x, _, dx, [], rfl, s12 _ _ hx, kc.cl, kc.no _ (by decide), by decide, ?_⟩
        dsimp only
        refine i_sfld ?_
        walk_at "go"
        refine ⟨x, _, dx, [("name", nm)], rfl, upd_same, kc.cl, kc.no _ (by decide), (by show (1 : Nat) < 1000; decide), ?_⟩
        exact k.1 (if_pos h2) _ (Kept.upd (Kept.upd fun b o _ e => s12 b o e)) upd_same
end
end Me
set_option maxHeartbeats 8000000
namespace Me
open PySem L2


def RNot (a : Ad) : Addr → Addr → Hp → Prop := fun p q H => ∃ dy, H q = some (.ins (a.C 0) dy [])
/-- equal kinds inside ways and parts -/
def DKin (a : Ad) : L2.Eqv := fun x y H => DIns (a.C 0) (RNot a) x y H ∨ DSim a x y H ∨ DIns (a.C 4) (RItm a) x y H
def KEq (a : Ad) (x y : V) (H : Hp) : Prop := (x = .non ∧ y = .non) ∨ DKin a x y H
def rKin (a : Ad) : R2 := fun x y H Q => (x = .non ∧ y = .non ∧ Q (.bl true) H) ∨ rEqG (DKin a) x y H Q
def R3 (a : Ad) (i : Nat) : Addr → Addr → Hp → Prop := fun p q H => ∃ dx dy wd nm y z, H p = some (.ins (a.C i) dx [("word", wd), ("name", nm), ("kind", y)]) ∧ H q = some (.ins (a.C i) dy [("word", wd), ("name", nm), ("kind", z)]) ∧ scal wd wd = true ∧ scal nm nm = true ∧ KEq a y z H
def RPart (a : Ad) : Addr → Addr → Hp → Prop := fun p q H => ∃ dx dy nm y z, H p = some (.ins (a.C 7) dx [("name", nm), ("kind", y)]) ∧ H q = some (.ins (a.C 7) dy [("name", nm), ("kind", z)]) ∧ scal nm nm = true ∧ KEq a y z H
def DMade (a : Ad) : L2.Eqv := fun x y H => DIns (a.C 5) (R3 a 5) x y H ∨ DIns (a.C 6) (R3 a 6) x y H ∨ DIns (a.C 7) (RPart a) x y H ∨ DIns (a.C 8) (R3 a 8) x y H
section
variable {P : Program} {w : World} {K : PySem.W.Frag} {mg : Str → Option Value} {base : Heap} {a : Ad}
theorem ok_eq0 (T : Txt K mg a) : FnOk P w K mg base CX0 1 (a.E 0).f (a.E 0).fd ["self", "other"] (spEq (RNot a)) := by
  have sc : FnScope ["self", "other"] ["self", "other"] (defScope (inClass (top 10) 0)) := ⟨rfl, rfl, rfl, by decide +kernel, rfl, by decide +kernel, by decide +kernel⟩
  refine ok0 T.E0 sc (fun vs H Q E h => ?_) (fun cdv A outer s H vs Q E hr h => ?_)
  · obtain ⟨p, q, rfl, _⟩ := h
    rfl
  · obtain ⟨p, q, rfl, ⟨dy, hq⟩, k⟩ := h
    refine ⟨_, (pss_one (ps_ret (pe_callB call_isi (by rfl) T.isinstance (by decide +kernel) (pa_cons (pv 1) (pa_cons (pe_glob (v := .ref (a.C 0)) rfl (T.kc 0 (by decide)).gl rfl) pa_nil))))), ?_⟩
    walk_at "go"
    refine i_isC T (by decide) (.ins (by decide) hq) ?_
    exact k _ Ext.rfl'
theorem rc_kin {X : Cx} (T : Txt X.K X.mg a) : RcG X 2 (DKin a) := by
  intro A pins s σ H x y u v sb I rx ry d
  rcases d with d | d | d
  · exact rcG_ins ((ok_eq0 T).mono (by decide : 1 ≤ 2)) (T.kc 0 (by decide)).eqA (T.kc 0 (by decide)).eqF T.Eb0 pass0 A pins s σ H x y u v sb I rx ry d
  · exact rc_sim T A pins s σ H x y u v (sb.mono (by decide)) I rx ry d
  · exact rc_itm T A pins s σ H x y u v sb I rx ry d
theorem op_kin {X : Cx} (T : Txt X.K X.mg a) (hr : Room 2 X.A) : OpR X (compareOp .Eq) (rKin a) := by
  intro pins s σ H x y v u Q I rx ry h
  rcases h with ⟨rfl, rfl, q⟩ | h
  · exact op_eq pins s σ H .non .non v u Q I rx ry ⟨rfl, by rw [decide_eq_true rfl]; exact q⟩
  · exact op_eqG (rc_kin T) hr pins s σ H x y v u Q I rx ry h
theorem ok_eq5 (T : Txt K mg a) : FnOk P w K mg base CX0 3 (a.E 5).f (a.E 5).fd ["self", "other"] (spEq (R3 a 5)) := by
  have sc : FnScope ["self", "other"] ["self", "other"] (defScope (inClass (top 16) 1)) := ⟨rfl, rfl, rfl, by decide +kernel, rfl, by decide +kernel, by decide +kernel⟩
  refine ok0 T.E5 sc (fun vs H Q E h => ?_) (fun cdv A outer s H vs Q E hr h => ?_)
  · obtain ⟨p, q, rfl, _⟩ := h
    rfl
  · obtain ⟨p, q, rfl, ⟨dx, dy, wd, nm, y, z, hp, hq, e1, e2, e3⟩, k⟩ := h
    have kc := T.kc 5 (by decide)
    refine ⟨_, (pss_one (ps_ret (pe_and (pe_callB call_isi (by rfl) T.isinstance (by decide +kernel) (pa_cons (pv 1) (pa_cons (pe_glob (v := .ref (a.C 5)) rfl (T.kc 5 (by decide)).gl rfl) pa_nil))) (pe_and (pe_cmpR op_eq (pe_fld (pv 0) rfl) (pe_fld (pv 1) rfl) (nomark _)) (pe_and (pe_cmpR op_eq (pe_fld (pv 0) rfl) (pe_fld (pv 1) rfl) (nomark _)) (pe_one (pe_cmpR (op_kin T (hr.mono (by decide))) (pe_fld (pv 0) rfl) (pe_fld (pv 1) rfl) (nomark _)))))))), ?_⟩
    walk_at "go"
    refine i_isC T (by decide) (.ins (by decide) hq) ?_
    refine ⟨_, rfl, i_yes (decide_eq_true rfl) ?_⟩
    refine i_andV (i_feq rfl rfl hp hq kc.cl (kc.no _ (by decide)) rfl rfl e1 ⟨_, rfl, i_yes rfl ?_⟩)
    refine i_andV (i_feq rfl rfl hp hq kc.cl (kc.no _ (by decide)) rfl rfl e2 ⟨_, rfl, i_yes rfl ?_⟩)
    refine ⟨_, rfl, p, _, _, _, y, rfl, hp, kc.cl, kc.no _ (by decide), rfl, _, rfl, q, _, _, _, z, rfl, hq, kc.cl, kc.no _ (by decide), rfl, ?_⟩
    rcases e3 with ⟨rfl, rfl⟩ | d
    · exact .inl ⟨rfl, rfl, k _ Ext.rfl'⟩
    · exact .inr ⟨d, fun H1 x1 => k _ x1⟩
theorem ok_eq6 (T : Txt K mg a) : FnOk P w K mg base CX0 3 (a.E 6).f (a.E 6).fd ["self", "other"] (spEq (R3 a 6)) := by
  have sc : FnScope ["self", "other"] ["self", "other"] (defScope (inClass (top 17) 1)) := ⟨rfl, rfl, rfl, by decide +kernel, rfl, by decide +kernel, by decide +kernel⟩
  refine ok0 T.E6 sc (fun vs H Q E h => ?_) (fun cdv A outer s H vs Q E hr h => ?_)
  · obtain ⟨p, q, rfl, _⟩ := h
    rfl
  · obtain ⟨p, q, rfl, ⟨dx, dy, wd, nm, y, z, hp, hq, e1, e2, e3⟩, k⟩ := h
    have kc := T.kc 6 (by decide)
    refine ⟨_, (pss_one (ps_ret (pe_and (pe_callB call_isi (by rfl) T.isinstance (by decide +kernel) (pa_cons (pv 1) (pa_cons (pe_glob (v := .ref (a.C 6)) rfl (T.kc 6 (by decide)).gl rfl) pa_nil))) (pe_and (pe_cmpR op_eq (pe_fld (pv 0) rfl) (pe_fld (pv 1) rfl) (nomark _)) (pe_and (pe_cmpR op_eq (pe_fld (pv 0) rfl) (pe_fld (pv 1) rfl) (nomark _)) (pe_one (pe_cmpR (op_kin T (hr.mono (by decide))) (pe_fld (pv 0) rfl) (pe_fld (pv 1) rfl) (nomark _)))))))), ?_⟩
    walk_at "go"
    refine i_isC T (by decide) (.ins (by decide) hq) ?_
    refine ⟨_, rfl, i_yes (decide_eq_true rfl) ?_⟩
    refine i_andV (i_feq rfl rfl hp hq kc.cl (kc.no _ (by decide)) rfl rfl e1 ⟨_, rfl, i_yes rfl ?_⟩)
    refine i_andV (i_feq rfl rfl hp hq kc.cl (kc.no _ (by decide)) rfl rfl e2 ⟨_, rfl, i_yes rfl ?_⟩)
    refine ⟨_, rfl, p, _, _, _, y, rfl, hp, kc.cl, kc.no _ (by decide), rfl, _, rfl, q, _, _, _, z, rfl, hq, kc.cl, kc.no _ (by decide), rfl, ?_⟩
    rcases e3 with ⟨rfl, rfl⟩ | d
    · exact .inl ⟨rfl, rfl, k _ Ext.rfl'⟩
    · exact .inr ⟨d, fun H1 x1 => k _ x1⟩
theorem ok_eq8 (T : Txt K mg a) : FnOk P w K mg base CX0 3 (a.E 8).f (a.E 8).fd ["self", "other"] (spEq (R3 a 8)) := by
  have sc : FnScope ["self", "other"] ["self", "other"] (defScope (inClass (top 19) 1)) := ⟨rfl, rfl, rfl, by decide +kernel, rfl, by decide +kernel, by decide +kernel⟩
  refine ok0 T.E8 sc (fun vs H Q E h => ?_) (fun cdv A outer s H vs Q E hr h => ?_)
  · obtain ⟨p, q, rfl, _⟩ := h
    rfl
  · obtain ⟨p, q, rfl, ⟨dx, dy, wd, nm, y, z, hp, hq, e1, e2, e3⟩, k⟩ := h
    have kc := T.kc 8 (by decide)
    refine ⟨_, (pss_one (ps_ret (pe_and (pe_callB call_isi (by rfl) T.isinstance (by decide +kernel) (pa_cons (pv 1) (pa_cons (pe_glob (v := .ref (a.C 8)) rfl (T.kc 8 (by decide)).gl rfl) pa_nil))) (pe_and (pe_cmpR op_eq (pe_fld (pv 0) rfl) (pe_fld (pv 1) rfl) (nomark _)) (pe_and (pe_cmpR op_eq (pe_fld (pv 0) rfl) (pe_fld (pv 1) rfl) (nomark _)) (pe_one (pe_cmpR (op_kin T (hr.mono (by decide))) (pe_fld (pv 0) rfl) (pe_fld (pv 1) rfl) (nomark _)))))))), ?_⟩
    walk_at "go"
    refine i_isC T (by decide) (.ins (by decide) hq) ?_
    refine ⟨_, rfl, i_yes (decide_eq_true rfl) ?_⟩
    refine i_andV (i_feq rfl rfl hp hq kc.cl (kc.no _ (by decide)) rfl rfl e1 ⟨_, rfl, i_yes rfl ?_⟩)
    refine i_andV (i_feq rfl rfl hp hq kc.cl (kc.no _ (by decide)) rfl rfl e2 ⟨_, rfl, i_yes rfl ?_⟩)
    refine ⟨_, rfl, p, _, _, _, y, rfl, hp, kc.cl, kc.no _ (by decide), rfl, _, rfl, q, _, _, _, z, rfl, hq, kc.cl, kc.no _ (by decide), rfl, ?_⟩
    rcases e3 with ⟨rfl, rfl⟩ | d
    · exact .inl ⟨rfl, rfl, k _ Ext.rfl'⟩
    · exact .inr ⟨d, fun H1 x1 => k _ x1⟩
theorem ok_eq7 (T : Txt K mg a) : FnOk P w K mg base CX0 3 (a.E 7).f (a.E 7).fd ["self", "other"] (spEq (RPart a)) := by
  have sc : FnScope ["self", "other"] ["self", "other"] (defScope (inClass (top 18) 1)) := ⟨rfl, rfl, rfl, by decide +kernel, rfl, by decide +kernel, by decide +kernel⟩
  refine ok0 T.E7 sc (fun vs H Q E h => ?_) (fun cdv A outer s H vs Q E hr h => ?_)
  · obtain ⟨p, q, rfl, _⟩ := h
    rfl
  · obtain ⟨p, q, rfl, ⟨dx, dy, nm, y, z, hp, hq, e2, e3⟩, k⟩ := h
    have kc := T.kc 7 (by decide)
    refine ⟨_, (pss_one (ps_ret (pe_and (pe_callB call_isi (by rfl) T.isinstance (by decide +kernel) (pa_cons (pv 1) (pa_cons (pe_glob (v := .ref (a.C 7)) rfl (T.kc 7 (by decide)).gl rfl) pa_nil))) (pe_and (pe_cmpR op_eq (pe_fld (pv 0) rfl) (pe_fld (pv 1) rfl) (nomark _)) (pe_one (pe_cmpR (op_kin T (hr.mono (by decide))) (pe_fld (pv 0) rfl) (pe_fld (pv 1) rfl) (nomark _))))))), ?_⟩
    walk_at "go"
    refine i_isC T (by decide) (.ins (by decide) hq) ?_
    refine ⟨_, rfl, i_yes (decide_eq_true rfl) ?_⟩
    refine i_andV (i_feq rfl rfl hp hq kc.cl (kc.no _ (by decide)) rfl rfl e2 ⟨_, rfl, i_yes rfl ?_⟩)
    refine ⟨_, rfl, p, _, _, _, y, rfl, hp, kc.cl, kc.no _ (by decide), rfl, _, rfl, q, _, _, _, z, rfl, hq, kc.cl, kc.no _ (by decide), rfl, ?_⟩
    rcases e3 with ⟨rfl, rfl⟩ | d
    · exact .inl ⟨rfl, rfl, k _ Ext.rfl'⟩
    · exact .inr ⟨d, fun H1 x1 => k _ x1⟩
theorem rc_made {X : Cx} (T : Txt X.K X.mg a) : RcG X 3 (DMade a) := by
  intro A pins s σ H x y u v sb I rx ry d
  rcases d with d | d | d | d
  · exact rcG_ins (ok_eq5 T) (T.kc 5 (by decide)).eqA (T.kc 5 (by decide)).eqF T.Eb5 pass0 A pins s σ H x y u v sb I rx ry d
  · exact rcG_ins (ok_eq6 T) (T.kc 6 (by decide)).eqA (T.kc 6 (by decide)).eqF T.Eb6 pass0 A pins s σ H x y u v sb I rx ry d
  · exact rcG_ins (ok_eq7 T) (T.kc 7 (by decide)).eqA (T.kc 7 (by decide)).eqF T.Eb7 pass0 A pins s σ H x y u v sb I rx ry d
  · exact rcG_ins (ok_eq8 T) (T.kc 8 (by decide)).eqA (T.kc 8 (by decide)).eqF T.Eb8 pass0 A pins s σ H x y u v sb I rx ry d
end
end Me
set_option maxHeartbeats 8000000
namespace Me
open PySem L2 PyProof.Rows PySem.Spec
/-! ### set comprehensions of texts and integers -/
/-- {elt for target in iter if ..}: D the new set -/
def tScK (P : Program) (w : World) (wi : TI) (g : TG) (tt : TT) (te : TE) (vs : List Nat) : TE := fun σ H Q => wi σ H fun J H1 => ∀ D, H1 D = none → ∃ W : Nat → Nat → Hp → Prop, (∃ m, W 0 m (upd H1 D (SetK P w D (fun _ => false) 0))) ∧ ∀ i m H, W i m H →
  (J.stop i H ∧ Q (.ref D) H) ∨ (J.go i H ∧ ∃ Nx : Hp → Prop, (∀ H', Nx H' → ∃ m', m' < m ∧ W (i + 1) m' H') ∧ ∀ x H', J.yld i H x H' → g x (wipe σ vs) H' fun σ2 H2 => wipe σ2 vs = wipe σ vs ∧ tt σ2 H2 fun b H3 =>
    if b = true then te σ2 H3 fun y H4 => rSAddK P w (.ref D) [y] H4 fun _ H5 => Nx H5 else Nx H3)
/-- an empty set at the end of a heap -/
theorem set_new {P : Program} {w : World} {h : Heap} : (h.push { cls := .type "set", dict := none, data := .set #[] 0 (.fresh 0 0 (!w.params.followText "set-order")) }).SetOf (mixKind P w) h.objs.size (fun _ => false) 0 :=
  ⟨_, #[], 0, _, Heap.get?_push_size _ rfl, ⟨rfl, rfl, rfl⟩, rfl, (fun e he => by simp at he), (fun k => by simp), (by decide), (by rfl), rfl⟩
section
variable {X : Cx}
/-- what holds at each turn of the block -/
def Turn (Z : Cx) (σ0 : L2.St) (fp : List Addr) (tn : Nat → Heap → Prop) (W : Nat → Nat → Hp → Prop) (n : Nat) (s : Shared) : Prop :=
  ∃ i H', Inv Z [] σ0 H' s ∧ tn i s.heap ∧ (∀ b ∈ fp, H' b = none) ∧ W i n H'
theorem pe_scK {elt tg iter : Expr} {ifs : List Expr} {scope : Scope} {own : List (PySem.Str × Nat)} {pos : Pos} {wi : TI} {g : TG} {tt : TT} {te : TE} (hc : X.calm = true) (hN : X.N.Nodup) (hi : PI X tg iter wi) (ok : BlkOk X.N X.env.scope scope own)
    (hg : ∀ (s : Shared) (H : Hp) (C : Addr) (cl : List (PySem.Str × Addr)) (fp : List Addr), PG (X.blk s H scope (compEnvC scope cl C X.env) fp) tg g) (ht : ∀ (s : Shared) (H : Hp) (C : Addr) (cl : List (PySem.Str × Addr)) (fp : List Addr), PTs (X.blk s H scope (compEnvC scope cl C X.env) fp) ifs tt)
    (he : ∀ (s : Shared) (H : Hp) (C : Addr) (cl : List (PySem.Str × Addr)) (fp : List Addr), PE (X.blk s H scope (compEnvC scope cl C X.env) fp) elt te) (hs : ∀ x, foldedSetIterable iter X.env x = pure x := by intro _; rfl) :
    PE X (.SetComp elt [⟨tg, iter, ifs, 0⟩] scope pos) (tScK X.prog X.w wi g tt te (own.map (·.2))) := by
  refine ⟨fun pins s σ H Q I h => ?_⟩
  rw [PpSet.eval_SetComp]
  have closed : ∀ y ∈ scope.names, y.2 = .free → ∃ c, X.env.cells.lookup y.1 = some c := by
    intro y hy e
    rcases ok.free y hy e with k | k
    · exact I.ok.has _ (.inl k)
    · exact I.ok.has _ (.inr k)
  refine wpAny_comprehension_free (use := none) rfl hs (closure_ok closed) ok.kind (fun y hy e => by rw [ok.uniq y hy, e]) ?_
  refine thn (hi.run pins s σ H _ I h) fun xv s1 hx => thn hx fun itv s2 ⟨it, fp, tn, J, H2, e, I2, T, st2, f2, q⟩ => ?_
  subst e
  refine PpSet.newSet_ok (newEnv_comp ?_)
  -- the new set
  have noD : H2 s2.heap.objs.size = none := I2.hok.fresh (Nat.le_refl _)
  obtain ⟨W, ⟨m0, w0⟩, turn⟩ := q s2.heap.objs.size noD
  have I3 : Inv X pins σ (upd H2 s2.heap.objs.size (SetK X.prog X.w s2.heap.objs.size (fun _ => false) 0)) { s2 with heap := s2.heap.push { cls := .type "set", dict := none, data := .set #[] 0 (.fresh 0 0 (!X.w.params.followText "set-order")) } } :=
    I2.laid (t' := s2.toks) (fun b o e => Heap.get?_push_of_some _ e) (Nat.le_refl _) (setK_new set_new)
  have ltD : ∀ b ∈ fp, b < s2.heap.objs.size := fun b hb => by
    obtain ⟨o, e, _⟩ := T.obj _ _ st2 b hb
    exact Heap.lt_size e
  have keepT : ∀ b o, s2.heap.get? b = some o → ({ s2 with heap := s2.heap.push { cls := .type "set", dict := none, data := .set #[] 0 (.fresh 0 0 (!X.w.params.followText "set-order")) } } : Shared).heap.get? b = some o := fun b o e => Heap.get?_push_of_some _ e
  have st3 := T.keep _ _ _ st2 fun b _ o e => keepT b o e
  have szD : s2.heap.objs.size < ({ s2 with heap := s2.heap.push { cls := .type "set", dict := none, data := .set #[] 0 (.fresh 0 0 (!X.w.params.followText "set-order")) } } : Shared).heap.objs.size := by
    show _ < (s2.heap.push _).objs.size
    rw [Heap.size_push]; exact Nat.lt_succ_self _
  generalize hD : s2.heap.objs.size = D at noD w0 turn I3 ltD szD
  generalize hs3 : ({ s2 with heap := s2.heap.push { cls := .type "set", dict := none, data := .set #[] 0 (.fresh 0 0 (!X.w.params.followText "set-order")) } } : Shared) = s3 at I3 st3 szD ⊢
  generalize hH3 : upd H2 D (SetK X.prog X.w D (fun _ => false) 0) = H3 at w0 I3
  have f3 : ∀ b ∈ fp, FpOk X pins H3 b ∧ b < s3.heap.objs.size := fun b hb =>
    ⟨⟨by rw [← hH3, upd_ne (Nat.ne_of_lt (ltD b hb))]; exact (f2 b hb).1, (f2 b hb).2⟩, Nat.lt_trans (ltD b hb) szD⟩
  have I4 := block_start I3 ok hN f3
  have pg := hg s3 H3 s3.heap.objs.size (cellsFrom (s3.heap.objs.size + 1) scope.names (cloFrom X.env.cells scope.names [])) fp
  have pt := ht s3 H3 s3.heap.objs.size (cellsFrom (s3.heap.objs.size + 1) scope.names (cloFrom X.env.cells scope.names [])) fp
  have pe := he s3 H3 s3.heap.objs.size (cellsFrom (s3.heap.objs.size + 1) scope.names (cloFrom X.env.cells scope.names [])) fp
  change codeAny _ _ (.compStart _ 0 (.ref it) (.ref D) (compEnvC scope (cellsFrom (s3.heap.objs.size + 1) scope.names (cloFrom X.env.cells scope.names [])) s3.heap.objs.size X.env)) (compPost (model X.prog X.w) X.A X.xe none (EP X pins σ Q) (.ref D) s3.heap.objs.size) { s3 with heap := pushCells (s3.heap.push { cls := .type "dict", data := .dict #[] }) scope.names }
  have loc : (compEnvC scope (cellsFrom (s3.heap.objs.size + 1) scope.names (cloFrom X.env.cells scope.names [])) s3.heap.objs.size X.env).locals = s3.heap.objs.size := rfl
  generalize compEnvC scope (cellsFrom (s3.heap.objs.size + 1) scope.names (cloFrom X.env.cells scope.names [])) s3.heap.objs.size X.env = ce at I4 pg pt pe loc ⊢
  have st4 : tn 0 (pushCells (s3.heap.push { cls := .type "dict", data := .dict #[] }) scope.names) := T.keep _ _ _ st3 fun b _ o e => pushCells_keeps _ _ _ _ (Heap.get?_push_of_some _ e)
  generalize hs4 : ({ s3 with heap := pushCells (s3.heap.push { cls := .type "dict", data := .dict #[] }) scope.names } : Shared) = s4 at I4 ⊢
  have st4 : tn 0 s4.heap := by rw [← hs4]; exact st4
  -- the iterator's objects stay foreign to the block
  have far : ∀ {σ' : L2.St} {H' : Hp} {s' : Shared}, L2.Inv (X.blk s3 H3 scope ce fp) [] σ' H' s' → (∀ b ∈ fp, H' b = none) → ∀ b ∈ fp, FpOk (X.blk s3 H3 scope ce fp) [] H' b := by
    intro σ' H' s' I' hn b hb
    exact ⟨hn b hb, (I'.ok.exf b hb).1, I'.ok.exfs b hb, .inl hb, fun x c e => (I'.ok.exf b hb).2 x c e, fun p hp => absurd (show p ∈ ([] : List (Addr × Obj)) ++ [] from hp) (by simp)⟩
  refine PpSet.codeAny_compStart_set ?_ (T.self X.A 0 _ _ _ st4 ?_)
  all_goals
    refine PpSet.compLoopS_any (Turn (X.blk s3 H3 scope ce fp) (wipe σ (own.map (·.2))) fp tn W) (fun n s5 h5 => ?_) m0 ⟨0, H3, I4, st4, fun b hb => (f3 b hb).1.1, w0⟩
    obtain ⟨i, H5, I5, st5, n5, w5⟩ := h5
    rcases turn i n H5 w5 with ⟨stop, fin⟩ | ⟨go, Nx, less, step⟩
    · refine thnF (T.done (X.blk s3 H3 scope ce fp) rfl rfl rfl hc i [] s5 _ H5 (fun _ _ => False) I5 (far I5 n5) st5 stop) fun r s6 ⟨hr, I6⟩ => ?_
      subst hr
      have I7 : L2.Inv X pins σ H5 s6 := I3.call' (ch := fp) I6.os I6.base I6.hok I6.bare fun b hb => ⟨(f3 b hb).1.2.2.2.1, (f3 b hb).1.2.1, (f3 b hb).1.2.2.2.2.1, (f3 b hb).1.2.2.2.2.2⟩
      have nC : H5 s3.heap.objs.size = none := by rw [← loc]; exact I6.free
      obtain ⟨m, hn, _⟩ := I6.loc
      have hn : s6.heap.Ns s3.heap.objs.size m := by rw [← loc]; exact hn
      obtain ⟨f0, f1, f2, f3, f4, f5⟩ := I3.fpOk (Nat.le_refl _) nC
      exact ⟨m, hn, fun h'' sb => ⟨.ref D, H5, I7.turned (t' := s6.toks) (fun b o hb e => (sb.2 b hb).trans e) f0 f1 f3 f4 f5, rfl, fin⟩⟩
    · refine thnF (T.item (X.blk s3 H3 scope ce fp) rfl rfl rfl hc i [] s5 _ H5 (fun _ _ => False) I5 (far I5 n5) st5 go) fun r s6 ⟨u, hr, h6⟩ => ?_
      subst hr
      refine thnF h6 fun _ s7 ⟨x, H7, I7, r7, y7, st7, n7⟩ => ?_
      refine thnF (pg.run _ s7 _ H7 x u _ (I7.pinned (far I7 n7) (T.obj _ _ st7)) r7 (step x H7 y7)) fun _ s8 ⟨σ8, H8, I8, same, q8⟩ => ?_
      refine thnF (pt.run _ s8 σ8 H8 _ I8 q8) fun b s9 ⟨H9, I9, q9⟩ => ?_
      have next : ∀ {s' : Shared} {H' : Hp}, L2.Inv (X.blk s3 H3 scope ce fp) ([] ++ pinsAt fp s7.heap) σ8 H' s' → Nx H' → ∃ m, m < n ∧ Turn (X.blk s3 H3 scope ce fp) (wipe σ (own.map (·.2))) fp tn W m s' := by
        intro s' H' I' nx
        obtain ⟨m', lt, w'⟩ := less H' nx
        have stays : ∀ b ∈ fp, ∀ o, s7.heap.get? b = some o → s'.heap.get? b = some o ∧ H' b = none := fun b hb o e =>
          have z := I'.pin (b, o) (List.mem_append_right _ (List.mem_append_right _ (mem_pinsAt hb e)))
          ⟨z.1, z.2.1⟩
        refine ⟨m', lt, i + 1, H', (I'.unpinned (pins := [])).weak (by rw [← same, wipe_length]) (fun j v e => ?_), T.keep _ _ _ st7 fun b hb o e => (stays b hb o e).1, fun b hb => ?_, w'⟩
        · rw [← same] at e; exact (wipe_some e).1
        · obtain ⟨o, e, _⟩ := T.obj _ _ st7 b hb
          exact (stays b hb o e).2
      cases b with
      | false => exact next I9 q9
      | true =>
        refine thnF (pe.run _ s9 σ8 H9 _ I9 q9) fun z s10 ⟨yv, H10, I10, r10, q10⟩ => ?_
        refine thnF (mt_saddK _ s10 σ8 H10 (.ref D) [yv] (.ref D) [z] _ I10 rfl (.cons r10 .nil) q10) fun v s11 ⟨_, H11, I11, _, nx⟩ => ?_
        exact next I11 nx
/-- len of a set of texts or integers -/
theorem call_lenK : CallR X (.builtin "len") (fun xs H Q => ∃ (a : Addr) (S : Key → Bool) (n : Nat), xs = [.ref a] ∧ H a = some (SetK X.prog X.w a S n) ∧ Q (.int n) H) := by
  intro pins s σ H xs us Q I r h
  obtain ⟨a, S, n, rfl, ha, q⟩ := h
  cases r with
  | cons r rr =>
    cases rr
    cases r
    obtain ⟨o, es, ep, t, ho, hex, hd, _, _, hb, hf, hn⟩ := setK_get I ha
    subst hn
    have small : (es.size : Int) < 2 ^ 63 := by
      have e : scanBound < 2 ^ 63 := by decide +kernel
      have e2 : es.size < 2 ^ 63 := Nat.lt_trans hb e
      exact_mod_cast e2
    exact call_len_set ho hex hd hf small ⟨.int es.size, H, I.tok _, ⟨_, rfl⟩, q⟩
end
/-- over a list that the block leaves as it is -/
theorem sck_list {P : Program} {w : World} {K : PySem.W.Frag} {a : Addr} {xs : List V} {g : TG} {tt : TT} {te : TE} {vs : List Nat} {σ : L2.St} {H1 : Hp} {D : Addr} {Qd : Hp → Prop} (Pv : Nat → Hp → Prop) (h0 : Pv 0 (upd H1 D (SetK P w D (fun _ => false) 0)))
    (hl : ∀ i H, i ≤ xs.length → Pv i H → SqL K H a xs)
    (hs : ∀ i x H, xs[i]? = some x → Pv i H → g x (wipe σ vs) H fun σ2 H2 => wipe σ2 vs = wipe σ vs ∧ tt σ2 H2 fun b H3 => if b = true then te σ2 H3 fun y H4 => rSAddK P w (.ref D) [y] H4 fun _ H5 => Pv (i + 1) H5 else Pv (i + 1) H3) (hd : ∀ H, Pv xs.length H → Qd H) :
    ∃ W : Nat → Nat → Hp → Prop, (∃ m, W 0 m (upd H1 D (SetK P w D (fun _ => false) 0))) ∧ ∀ i m H, W i m H →
      ((Itl K a).stop i H ∧ Qd H) ∨ ((Itl K a).go i H ∧ ∃ Nx : Hp → Prop, (∀ H', Nx H' → ∃ m', m' < m ∧ W (i + 1) m' H') ∧ ∀ x H', (Itl K a).yld i H x H' → g x (wipe σ vs) H' fun σ2 H2 => wipe σ2 vs = wipe σ vs ∧ tt σ2 H2 fun b H3 =>
        if b = true then te σ2 H3 fun y H4 => rSAddK P w (.ref D) [y] H4 fun _ H5 => Nx H5 else Nx H3) := by
  refine ⟨fun i m H => m + i = xs.length ∧ Pv i H, ⟨xs.length, rfl, h0⟩, fun i m H h => ?_⟩
  obtain ⟨hm, p⟩ := h
  have q := hl i H (by omega) p
  cases m with
  | zero =>
    have e : i = xs.length := by omega
    subst e
    exact .inl ⟨⟨xs, q, Nat.le_refl _⟩, hd H p⟩
  | succ m =>
    have lt : i < xs.length := by omega
    refine .inr ⟨⟨xs, xs[i], q, List.getElem?_eq_getElem lt⟩, Pv (i + 1), fun H' p' => ⟨m, Nat.lt_succ_self m, by omega, p'⟩, fun x H' y => ?_⟩
    obtain ⟨rfl, y⟩ := y
    exact hs i x _ (y xs q) p
end Me
set_option maxHeartbeats 8000000
namespace Me
open PySem L2


/-! ### a list or a tuple -/
def Sq (K : PySem.W.Frag) (H : Hp) (a : Addr) (xs : List V) : Prop := SqL K H a xs ∨ SqT K H a xs
theorem Sq.same {K : PySem.W.Frag} {H H' : Hp} {a : Addr} {xs : List V} (h : Sq K H a xs) (s : Same H H') : Sq K H' a xs := h.elim (fun h => .inl (SqL.ext h s)) fun h => .inr (SqT.ext h s)
def iSq (K : PySem.W.Frag) (j : Nat) : TI := fun σ H R => ∃ a, σ[j]? = some (some (.ref a)) ∧ (((∃ xs, SqL K H a xs) ∧ R (Itl K a) H) ∨ ((∃ xs, SqT K H a xs) ∧ R (Itt K a) H))
theorem pi_sqv {X : Cx} {tg l : Expr} {j : Nat} (hl : PE X l (tVar j)) : PI X tg l (iSq X.K j) := by
  refine ⟨fun pins s σ H R I h => ?_⟩
  obtain ⟨a, e, h⟩ := h
  rcases h with ⟨x, r⟩ | ⟨x, r⟩
  · exact (pi_list hl).run pins s σ H R I ⟨_, e, a, rfl, x, r⟩
  · exact (pi_tup hl).run pins s σ H R I ⟨_, e, a, rfl, x, r⟩
/-- everything stays, but lists may change their items -/
def Soft (H H' : Hp) : Prop := ∀ b o, H b = some o → H' b = some o ∨ ∃ l l', o = .lst l ∧ H' b = some (.lst l')
theorem Same.soft {H H' : Hp} (s : Same H H') : Soft H H' := fun b o e => .inl (s b o e)
theorem Soft.trans {H H1 H2 : Hp} (a : Soft H H1) (b : Soft H1 H2) : Soft H H2 := fun c o e => by
  rcases a c o e with h | ⟨l, l', rfl, h⟩
  · exact b c o h
  · rcases b c _ h with h | ⟨_, l2, e2, h⟩
    · exact .inr ⟨l, l', rfl, h⟩
    · exact .inr ⟨l, l2, rfl, h⟩
theorem soft_upd {H : Hp} {D : Addr} {l l' : List V} (e : H D = some (.lst l)) : Soft H (upd H D (.lst l')) := fun b o h => by
  by_cases q : b = D
  · subst q
    rw [e] at h; cases h
    exact .inr ⟨l, l', rfl, upd_same⟩
  · exact .inl (by rw [upd_ne q]; exact h)
theorem Soft.ins {H H' : Hp} {b : Addr} {o : HO} (s : Soft H H') (h : H b = some o) (n : ∀ l, o ≠ .lst l) : H' b = some o := (s b o h).elim id fun ⟨l, _, e, _⟩ => absurd e (n l)
theorem went_soft {p : Addr} {H H' : Hp} (S : StOk H p) (w : Went p H H') : Soft H H' := fun b o e => by
  by_cases q : b = p
  · subst q
    obtain ⟨L, ns, i, x, c, e1, _⟩ := S
    obtain ⟨L2, ns2, i2, x2, c2, e2, _⟩ := w.1
    rw [e1] at e; cases e
    exact .inr ⟨_, _, rfl, e2⟩
  · exact .inl (w.2.1 b o q e)
theorem Th.soft {H H' : Hp} {v : V} (h : Th H v) (s : Soft H H') : Th H' v := by
  cases h with
  | non => exact .non
  | bl b => exact .bl b
  | int i => exact .int i
  | str x => exact .str x
  | tup h => exact .tup (s.ins h fun _ z => by cases z)
  | lst h =>
    rcases s _ _ h with h | ⟨_, l', _, h⟩
    · exact .lst h
    · exact .lst h
  | dK h => exact .dK (s.ins h fun _ z => by cases z)
theorem Itm.soft {a : Ad} {H H' : Hp} {v : V} {k : Option Nat} (h : Itm a H v k) (s : Soft H H') : Itm a H' v k := by
  cases h with
  | th h => exact .th (h.soft s)
  | ins hi h => exact .ins hi (s.ins h fun _ z => by cases z)
/-- [te for x in a list or tuple], each turn only makes objects -/
theorem many_lc {K : PySem.W.Frag} {te : TE} {σ : L2.St} {H : Hp} {Q : VK} {a : Addr} {j k : Nat} {xs : List V} (Rl : Nat → V → Hp → Prop) (mono : ∀ i y H H', Soft H H' → Rl i y H → Rl i y H') (h0 : σ[j]? = some (some (.ref a))) (ha : Sq K H a xs) (sm : xs.length < sizeLine)
    (hw : ∀ x, wipe ((wipe σ [k]).set k (some x)) [k] = wipe σ [k])
    (st : ∀ i x H1 (R : VK), xs[i]? = some x → Same H H1 → (∀ y H4, Same H1 H4 → Rl i y H4 → R y H4) → te ((wipe σ [k]).set k (some x)) H1 R)
    (kk : ∀ D ys H', H D = none → Same H H' → H' D = some (.lst ys) → ys.length = xs.length → (∀ i y, ys[i]? = some y → Rl i y H') → Q (.ref D) H') : tLc (iSq K j) (gName k) tYes te [k] σ H Q := by
  have key : ∀ D, H D = none → ∀ i x H1 (Pn : Hp → Prop), xs[i]? = some x → (Same H H1 ∧ ∃ ys, H1 D = some (.lst ys) ∧ ys.length = i ∧ ∀ i y, ys[i]? = some y → Rl i y H1) →
      (∀ H2, (Same H H2 ∧ ∃ ys, H2 D = some (.lst ys) ∧ ys.length = i + 1 ∧ ∀ i y, ys[i]? = some y → Rl i y H2) → Pn H2) →
      gName k x (wipe σ [k]) H1 fun σ2 H2 => wipe σ2 [k] = wipe σ [k] ∧ tYes σ2 H2 fun b H3 => if b = true then te σ2 H3 fun y H4 => ∃ acc, H4 D = some (.lst acc) ∧ acc.length < sizeLine ∧ Pn (upd H4 D (.lst (acc ++ [y]))) else Pn H3 := by
    rintro D nD i x H1 Pn hx ⟨s1, ys, e, hl, hr⟩ hP
    refine ⟨hw x, ?_⟩
    unfold tYes
    with_reducible refine L2.iteT ?_
    refine st i x H1 _ hx s1 fun y H4 s4 r => ?_
    have lt : i < xs.length := by
      rcases Nat.lt_or_ge i xs.length with h | h
      · exact h
      · rw [List.getElem?_eq_none h] at hx; cases hx
    have e4 := s4 _ _ e
    have so : Soft H4 (upd H4 D (.lst (ys ++ [y]))) := soft_upd e4
    refine ⟨ys, e4, by omega, hP _ ⟨?_, ys ++ [y], upd_same, by rw [List.length_append, hl]; rfl, ?_⟩⟩
    · intro b o hb
      rw [upd_ne (ne_of_none hb nD)]
      exact s4 _ _ (s1 _ _ hb)
    · intro i' y' hy
      by_cases q : i' < ys.length
      · rw [List.getElem?_append_left q] at hy
        exact mono _ _ _ _ so (mono _ _ _ _ (Same.soft s4) (hr i' y' hy))
      · rw [List.getElem?_append_right (by omega)] at hy
        have z : i' - ys.length = 0 := by
          rcases Nat.eq_zero_or_pos (i' - ys.length) with h | h
          · exact h
          · rw [List.getElem?_eq_none (by show 1 ≤ _; omega)] at hy; cases hy
        rw [z] at hy
        cases hy
        have : i' = i := by omega
        subst this
        exact mono _ _ _ _ so r
  rcases ha with ha | ha
  · refine ⟨a, h0, .inl ⟨⟨_, ha⟩, fun D nD => ?_⟩⟩
    refine lc_list (xs := xs) (fun i H' => Same H H' ∧ ∃ ys, H' D = some (.lst ys) ∧ ys.length = i ∧ ∀ i y, ys[i]? = some y → Rl i y H') ⟨same_new same_rfl nD, [], upd_same, rfl, fun i y h => by cases h⟩ (fun i H1 _ p => SqL.ext ha p.1) (fun i x H1 hx p => key D nD i x H1 _ hx p fun _ z => z) ?_
    rintro H1 ⟨s1, ys, e, hl, hr⟩
    exact kk D ys H1 nD s1 e hl hr
  · refine ⟨a, h0, .inr ⟨⟨_, ha⟩, fun D nD => ?_⟩⟩
    refine lc_tup (xs := xs) (fun i H' => Same H H' ∧ ∃ ys, H' D = some (.lst ys) ∧ ys.length = i ∧ ∀ i y, ys[i]? = some y → Rl i y H') ⟨same_new same_rfl nD, [], upd_same, rfl, fun i y h => by cases h⟩ (fun i H1 _ p => SqT.ext ha p.1) (fun i x H1 hx p => key D nD i x H1 _ hx p fun _ z => z) ?_
    rintro H1 ⟨s1, ys, e, hl, hr⟩
    exact kk D ys H1 nD s1 e hl hr
/-- over a tuple that the block leaves as it is -/
theorem sck_tup {P : Program} {w : World} {K : PySem.W.Frag} {a : Addr} {xs : List V} {g : TG} {tt : TT} {te : TE} {vs : List Nat} {σ : L2.St} {H1 : Hp} {D : Addr} {Qd : Hp → Prop} (Pv : Nat → Hp → Prop) (h0 : Pv 0 (upd H1 D (SetK P w D (fun _ => false) 0)))
    (hl : ∀ i H, i ≤ xs.length → Pv i H → SqT K H a xs)
    (hs : ∀ i x H, xs[i]? = some x → Pv i H → g x (wipe σ vs) H fun σ2 H2 => wipe σ2 vs = wipe σ vs ∧ tt σ2 H2 fun b H3 => if b = true then te σ2 H3 fun y H4 => rSAddK P w (.ref D) [y] H4 fun _ H5 => Pv (i + 1) H5 else Pv (i + 1) H3) (hd : ∀ H, Pv xs.length H → Qd H) :
    ∃ W : Nat → Nat → Hp → Prop, (∃ m, W 0 m (upd H1 D (SetK P w D (fun _ => false) 0))) ∧ ∀ i m H, W i m H →
      ((Itt K a).stop i H ∧ Qd H) ∨ ((Itt K a).go i H ∧ ∃ Nx : Hp → Prop, (∀ H', Nx H' → ∃ m', m' < m ∧ W (i + 1) m' H') ∧ ∀ x H', (Itt K a).yld i H x H' → g x (wipe σ vs) H' fun σ2 H2 => wipe σ2 vs = wipe σ vs ∧ tt σ2 H2 fun b H3 =>
        if b = true then te σ2 H3 fun y H4 => rSAddK P w (.ref D) [y] H4 fun _ H5 => Nx H5 else Nx H3) := by
  refine ⟨fun i m H => m + i = xs.length ∧ Pv i H, ⟨xs.length, rfl, h0⟩, fun i m H h => ?_⟩
  obtain ⟨hm, p⟩ := h
  have q := hl i H (by omega) p
  cases m with
  | zero =>
    have e : i = xs.length := by omega
    subst e
    exact .inl ⟨⟨xs, q, Nat.le_refl _⟩, hd H p⟩
  | succ m =>
    have lt : i < xs.length := by omega
    refine .inr ⟨⟨xs, xs[i], q, List.getElem?_eq_getElem lt⟩, Pv (i + 1), fun H' p' => ⟨m, Nat.lt_succ_self m, by omega, p'⟩, fun x H' y => ?_⟩
    obtain ⟨rfl, y⟩ := y
    exact hs i x _ (y xs q) p
end Me
set_option maxHeartbeats 8000000
namespace Me
open PySem L2


/-- an instance with a name -/
def Nm (K : PySem.W.Frag) (H : Hp) (v : V) (f : Str) (z : Str) : Prop := ∃ p C dx fs, v = .ref p ∧ H p = some (.ins C dx fs) ∧ Cls K C ∧ NoAttr K C f ∧ fs.lookup f = some (.str z)
theorem Nm.soft {K : PySem.W.Frag} {H H' : Hp} {v : V} {f z : Str} (h : Nm K H v f z) (s : Soft H H') : Nm K H' v f z := by
  obtain ⟨p, C, dx, fs, e, h, r⟩ := h
  exact ⟨p, C, dx, fs, e, s.ins h (fun _ z => by cases z), r⟩
theorem take_get {α : Type} {ns : List α} {i : Nat} {z : α} (h : ns[i]? = some z) : ns.take (i + 1) = ns.take i ++ [z] := by
  obtain ⟨lt, e⟩ := List.getElem?_eq_some_iff.mp h
  rw [← e]
  exact (List.take_append_getElem lt).symm
def clash (x y : Str) : Bool := Txt.startswith x y || Txt.startswith y x
theorem clash_comm (x y : Str) : clash x y = clash y x := Bool.or_comm _ _
def Apart (ws : List Str) : Prop := ws.Pairwise fun x y => clash x y = false
theorem cutV_nat (xs : List V) (k : Nat) (h : k ≤ xs.length) : cutV xs (some (k : Int)) none = xs.drop k := by
  unfold cutV
  rw [HT.sIx_none, HT.sIx_nat, Nat.min_eq_left h]
  exact List.take_of_length_le (by rw [List.length_drop]; exact Nat.le_refl _)
section
variable {P : Program} {w : World} {K : PySem.W.Frag} {mg : Str → Option Value} {base : Heap} {a : Ad}
def spUnlike (K : PySem.W.Frag) : Sp := fun vs H Q _ => ∃ (A : Addr) (xs : List V) (ns : List Str), vs = [.ref A] ∧ Sq K H A xs ∧ xs.length = ns.length ∧ xs.length ≤ 100 ∧ (∀ (i : Nat) x, xs[i]? = some x → ∃ z, ns[i]? = some z ∧ Nm K H x "name" z) ∧ ∀ (b : Bool) H', (b = true ↔ ns.Nodup) → Same H H' → Q (.bl b) H'
theorem ok_unlike (T : Txt K mg a) : FnOk P w K mg base CX0 1 a.have_unlike_names.f a.have_unlike_names.fd ["things"] (spUnlike K) := by
  have sc : FnScope ["things", "thing"] ["things"] (defScope (top 25)) := ⟨rfl, rfl, rfl, by decide +kernel, rfl, by decide +kernel, by decide +kernel⟩
  refine T.have_unlike_names.ok sc (fun vs H Q E h => ?_) (fun cdv A' outer s H vs Q E hr h => ?_)
  · obtain ⟨A, xs, ns, rfl, _⟩ := h
    rfl
  · obtain ⟨A, xs, ns, rfl, hA, hl, h100, hn, k⟩ := h
    refine ⟨_, (pss_one (ps_ret (pe_cmpR op_eq (pe_callB call_lenK (by rfl) T.len PySem.boot_len (pa_cons (pe_scK (te := tFld K (tVar 1) "name") (own := [("thing", 1)]) (g := gName 1) (by rfl) sc.nd (pi_sqv (pv 0)) (blkOk_by (own := [("thing", 1)]) (N := ["things", "thing"]) (sc := defScope (top 25)) (by decide +kernel)) (fun _ _ _ _ _ => pg_name (i := 1) sc.nd rfl (Or.inl rfl)) (fun _ _ _ _ _ => pts_nil) (fun _ _ _ _ _ => (by exact (pe_fld (pv 1) rfl)))) pa_nil)) (pe_callB call_len_seq (by rfl) T.len PySem.boot_len (pa_cons (pv 0) pa_nil)) (nomark _)))), ?_⟩
    walk_at "go"
    have inv : ∀ D, H D = none → ∀ (i : Nat) x H1 (Pn : Hp → Prop), xs[i]? = some x → (∃ S n, H1 = upd H D (SetK P w D S n) ∧ (∀ z, S (.inr z) = true ↔ z ∈ ns.take i) ∧ n ≤ i ∧ (n = i ↔ (ns.take i).Nodup)) →
        (∀ S n, ((∀ z, S (.inr z) = true ↔ z ∈ ns.take (i + 1)) ∧ n ≤ i + 1 ∧ (n = i + 1 ↔ (ns.take (i + 1)).Nodup)) → Pn (upd H D (SetK P w D S n))) →
        gName 1 x (wipe (L2.start ["things", "thing"] [.ref A]) [1]) H1 fun σ2 H2 => wipe σ2 [1] = wipe (L2.start ["things", "thing"] [.ref A]) [1] ∧ tYes σ2 H2 fun b H3 => if b = true then tFld K (tVar 1) "name" σ2 H3 fun y H4 => rSAddK P w (.ref D) [y] H4 fun _ H5 => Pn H5 else Pn H3 := by
      rintro D nD i x H1 Pn hx ⟨S, n, rfl, hS, hni, hnd⟩ hP
      refine ⟨rfl, ?_⟩
      unfold tYes
      with_reducible refine L2.iteT ?_
      obtain ⟨z, hz, p, C, dx, fs, rfl, hp, cl, no, lk⟩ := hn i x hx
      have np : p ≠ D := ne_of_none hp nD
      have lt : i < xs.length := by
        rcases Nat.lt_or_ge i xs.length with h | h
        · exact h
        · rw [List.getElem?_eq_none h] at hx; cases hx
      refine ⟨_, rfl, p, C, dx, fs, .str z, rfl, by rw [upd_ne np]; exact hp, cl, no, lk, ?_⟩
      refine ⟨D, .inr z, S, n, rfl, rfl, upd_same, Nat.lt_of_le_of_lt (by omega : n + 1 ≤ 102) (by decide), ?_⟩
      rw [upd_upd]
      have et := take_get hz
      refine hP _ _ ⟨fun y => ?_, ?_, ?_⟩
      · rw [et, List.mem_append, List.mem_singleton, Bool.or_eq_true, hS, decide_eq_true_iff]
        exact ⟨fun h => h.imp id fun e => Sum.inr.inj e, fun h => h.imp id fun e => by rw [e]⟩
      · split <;> omega
      · rw [et, List.nodup_append]
        by_cases q : S (.inr z) = true
        · rw [if_pos q]
          have mz := (hS z).mp q
          constructor
          · intro e; omega
          · rintro ⟨_, _, h⟩
            exact absurd rfl (h z mz z (List.mem_singleton.mpr rfl))
        · rw [if_neg q]
          have mz : z ∉ ns.take i := fun m => q ((hS z).mpr m)
          constructor
          · intro e
            refine ⟨hnd.mp (by omega), by simp, fun u hu v hv => ?_⟩
            rw [List.mem_singleton.mp hv]
            exact fun e => mz (e ▸ hu)
          · rintro ⟨h, _, _⟩
            rw [hnd.mpr h]
    have fin : ∀ D, H D = none → ∀ H1, (∃ S n, H1 = upd H D (SetK P w D S n) ∧ (∀ z, S (.inr z) = true ↔ z ∈ ns.take xs.length) ∧ n ≤ xs.length ∧ (n = xs.length ↔ (ns.take xs.length).Nodup)) →
        (∀ (b : Bool), (b = true ↔ ns.Nodup) → Q (.bl b) H1) := by
      rintro D nD H1 ⟨S, n, rfl, _⟩ b hb
      exact k b _ hb (same_new same_rfl nD)
    have last : ∀ n, (n = xs.length ↔ (ns.take xs.length).Nodup) → (decide (V.int (n : Int) = V.int (xs.length : Int)) = true ↔ ns.Nodup) := fun n h => by
      rw [List.take_of_length_le (by omega)] at h
      rw [← h, decide_eq_true_iff]
      exact ⟨fun e => by have := V.int.inj e; omega, fun e => by rw [e]⟩
    refine ⟨A, rfl, ?_⟩
    rcases hA with hA | hA
    · refine .inl ⟨⟨_, hA⟩, fun D nD => ?_⟩
      refine sck_list (xs := xs) (fun i H' => ∃ S n, H' = upd H D (SetK P w D S n) ∧ (∀ z, S (.inr z) = true ↔ z ∈ ns.take i) ∧ n ≤ i ∧ (n = i ↔ (ns.take i).Nodup)) ⟨_, 0, rfl, fun z => by simp, by omega, by simp⟩ ?_ (fun i x H1 hx p => inv D nD i x H1 _ hx p fun S n q => ⟨S, n, rfl, q⟩) ?_
      · rintro i H1 _ ⟨S, n, rfl, _⟩
        exact SqL.ext hA (same_new same_rfl nD)
      · rintro H1 ⟨S, n, rfl, q1, q2, q3⟩
        refine ⟨D, S, n, rfl, upd_same, ?_⟩
        walk_at "go"
        refine ⟨A, xs, rfl, .inl (SqL.ext hA (same_new same_rfl nD)), ?_⟩
        walk_at "go"
        exact fin D nD _ ⟨S, n, rfl, q1, q2, q3⟩ _ (last n q3)
    · refine .inr ⟨⟨_, hA⟩, fun D nD => ?_⟩
      refine sck_tup (xs := xs) (fun i H' => ∃ S n, H' = upd H D (SetK P w D S n) ∧ (∀ z, S (.inr z) = true ↔ z ∈ ns.take i) ∧ n ≤ i ∧ (n = i ↔ (ns.take i).Nodup)) ⟨_, 0, rfl, fun z => by simp, by omega, by simp⟩ ?_ (fun i x H1 hx p => inv D nD i x H1 _ hx p fun S n q => ⟨S, n, rfl, q⟩) ?_
      · rintro i H1 _ ⟨S, n, rfl, _⟩
        exact SqT.ext hA (same_new same_rfl nD)
      · rintro H1 ⟨S, n, rfl, q1, q2, q3⟩
        refine ⟨D, S, n, rfl, upd_same, ?_⟩
        walk_at "go"
        refine ⟨A, xs, rfl, .inr (SqT.ext hA (same_new same_rfl nD)), ?_⟩
        walk_at "go"
        exact fin D nD _ ⟨S, n, rfl, q1, q2, q3⟩ _ (last n q3)
end
end Me
set_option maxHeartbeats 8000000
namespace Me
open PySem L2


/-- for i, x in enumerate(list), the list stays -/
theorem for_enum {K : PySem.W.Frag} {a : Addr} {xs : List V} {g : TG} {tb : TS} {D : Ends} {σ : L2.St} {H : Hp} (Pv : Nat → L2.St → Hp → Prop) (h0 : Pv 0 σ H) (hl : ∀ i σ H, i ≤ xs.length → Pv i σ H → SqL K H a xs)
    (hs : ∀ i x σ H T, xs[i]? = some x → Pv i σ H → H T = none → g (.ref T) σ (upd H T (.tup [.int (i : Nat), x])) fun σ2 H2 => tb { D with nx := Pv (i + 1), ct := Pv (i + 1), bk := D.nx } σ2 H2) (hd : ∀ σ H, Pv xs.length σ H → D.nx σ H) :
    ∃ W : Nat → Nat → L2.St → Hp → Prop, (∃ m, W 0 m σ H) ∧ ∀ i m σ H, W i m σ H →
      ((Ite K a).stop i H ∧ D.nx σ H) ∨ ((Ite K a).go i H ∧ ∃ N : L2.St → Hp → Prop, (∀ σ' H', N σ' H' → ∃ m', m' < m ∧ W (i + 1) m' σ' H') ∧ ∀ x H', (Ite K a).yld i H x H' → g x σ H' fun σ2 H2 => tb { D with nx := N, ct := N, bk := D.nx } σ2 H2) := by
  refine ⟨fun i m σ H => m + i = xs.length ∧ Pv i σ H, ⟨xs.length, rfl, h0⟩, fun i m σ H h => ?_⟩
  obtain ⟨hm, p⟩ := h
  have q := hl i σ H (by omega) p
  cases m with
  | zero =>
    have e : i = xs.length := by omega
    subst e
    exact .inl ⟨⟨xs, q, Nat.le_refl _⟩, hd σ H p⟩
  | succ m =>
    have lt : i < xs.length := by omega
    refine .inr ⟨⟨xs, xs[i], q, List.getElem?_eq_getElem lt⟩, Pv (i + 1), fun σ' H' p' => ⟨m, Nat.lt_succ_self m, by omega, p'⟩, fun x H' y => ?_⟩
    obtain ⟨T, z, rfl, nT, rfl, y⟩ := y
    exact hs i z σ H T (y xs q) p nT
theorem apart_iff {ws : List Str} : Apart ws ↔ ∀ (m n : Nat) u v, m < n → ws[m]? = some u → ws[n]? = some v → clash u v = false := by
  unfold Apart
  rw [List.pairwise_iff_getElem]
  constructor
  · intro h m n u v lt hu hv
    obtain ⟨l1, e1⟩ := List.getElem?_eq_some_iff.mp hu
    obtain ⟨l2, e2⟩ := List.getElem?_eq_some_iff.mp hv
    rw [← e1, ← e2]
    exact h m n l1 l2 lt
  · intro h i j hi hj lt
    exact h i j _ _ lt (List.getElem?_eq_getElem hi) (List.getElem?_eq_getElem hj)
theorem i_m1' {r : V → List V → Hp → VK → Prop} {to te : TE} {σ : L2.St} {H : Hp} {Q : VK} (q : to σ H fun x H1 => (∃ a, x = .str a) ∧ te σ H1 fun y H2 => r x [y] H2 Q) : tM1 r to te σ H Q := q
section
variable {P : Program} {w : World} {K : PySem.W.Frag} {mg : Str → Option Value} {base : Heap} {a : Ad}
def spApart : Sp := fun vs H Q _ => ∃ (A : Addr) (ws : List Str), vs = [.ref A] ∧ H A = some (.lst (ws.map V.str)) ∧ ws.length ≤ 100 ∧ ∀ (b : Bool) H', (b = true ↔ Apart ws) → Same H H' → Q (.bl b) H'
theorem ok_apart (T : Txt K mg a) : FnOk P w K mg base CX0 1 a.are_apart.f a.are_apart.fd ["words"] spApart := by
  have sc : FnScope ["words", "at", "word", "other"] ["words"] (defScope (top 26)) := ⟨rfl, rfl, rfl, by decide +kernel, rfl, by decide +kernel, by decide +kernel⟩
  refine T.are_apart.ok sc (fun vs H Q E h => ?_) (fun cdv A' outer s H vs Q E hr h => ?_)
  · obtain ⟨A, ws, rfl, _⟩ := h
    rfl
  · obtain ⟨A, ws, rfl, hA, h100, k⟩ := h
    refine ⟨_, (pss_cons (ps_for PassesOwn.never rfl (pi_enum rfl T.enumerate (pa_cons (pv 0) pa_nil)) (pg_tup (by rfl) (pgs_cons (pg_name (i := 1) sc.nd rfl (by first | exact Or.inl rfl | exact Or.inr rfl)) (pgs_cons (pg_name (i := 2) sc.nd rfl (by first | exact Or.inl rfl | exact Or.inr rfl)) pgs_nil)))
      (pss_one (ps_for PassesOwn.never rfl (pi_list (pe_slice sl_list (pv 0) (po_some (pe_op op_add (pv 1) pe_int)) po_none)) (pg_name (i := 3) sc.nd rfl (by first | exact Or.inl rfl | exact Or.inr rfl))
      (pss_one (ps_if (PW.pt (pw_or (pt_val (pe_m1 F.slot_str_startswith F.type_str_startswith mt_startswith (pv 2) (pv 3) rfl rfl rfl)) (pw_or1 (pt_val (pe_m1 F.slot_str_startswith F.type_str_startswith mt_startswith (pv 3) (pv 2) rfl rfl rfl)))))
      (pss_one (ps_ret pe_bl))
      pss_nil)))))
      (pss_one (ps_ret pe_bl))), ?_⟩
    walk_at "go"
    refine ⟨_, rfl, A, _, rfl, SqL.of hA, ?_⟩
    refine for_enum (xs := ws.map V.str) (fun i σ H' => Same H H' ∧ (∃ x y z, σ = [some (.ref A), x, y, z]) ∧ ∀ (m n : Nat) u v, m < i → m < n → ws[m]? = some u → ws[n]? = some v → clash u v = false) ⟨same_rfl, ⟨_, _, _, rfl⟩, fun m n u v h => by omega⟩ ?_ ?_ ?_
    · rintro i σ H1 _ ⟨s1, _⟩
      exact SqL.of (s1 _ _ hA)
    · rintro i x σ H1 t hx ⟨s1, ⟨x1, x2, x3, rfl⟩, hc⟩ nt
      rw [List.getElem?_map] at hx
      cases hu : ws[i]? with
      | none => rw [hu] at hx; cases hx
      | some u =>
        rw [hu] at hx
        cases hx
        have hi : i < ws.length := (List.getElem?_eq_some_iff.mp hu).1
        have s2 := same_new (o := .tup [.int (i : Nat), .str u]) s1 nt
        refine ⟨t, _, rfl, SqT.of upd_same, rfl, _, _, rfl, ?_⟩
        walk_at "go"
        refine ⟨_, _, rfl, ?_⟩
        walk_at "go"
        refine ⟨rfl, ?_⟩
        refine ⟨_, rfl, _, rfl, _, _, rfl, rfl, _, rfl, A, _, rfl, SqL.of (s2 _ _ hA), fun L nL => ?_⟩
        have ec : cutV (ws.map V.str) (some ((i : Int) + 1)) none = (ws.drop (i + 1)).map V.str := by
          have e : ((i : Int) + 1) = ((i + 1 : Nat) : Int) := by omega
          rw [e, cutV_nat _ _ (by rw [List.length_map]; omega), List.map_drop]
        rw [ec]
        have s3 := same_new (o := .lst ((ws.drop (i + 1)).map V.str)) s2 nL
        refine ⟨L, rfl, ⟨_, SqL.of upd_same⟩, ?_⟩
        refine for_list (xs := (ws.drop (i + 1)).map V.str) (fun j σ H' => Same H H' ∧ (∃ z, σ = [some (.ref A), some (.int (i : Nat)), some (.str u), z]) ∧ H' L = some (.lst ((ws.drop (i + 1)).map V.str)) ∧ ∀ (n : Nat) v, n < j → (ws.drop (i + 1))[n]? = some v → clash u v = false)
          ⟨s3, ⟨_, rfl⟩, upd_same, fun n v h => by omega⟩ ?_ ?_ ?_
        · rintro j σ H2 _ ⟨_, _, e, _⟩
          exact SqL.of e
        · rintro j y σ H2 hy ⟨s4, ⟨z, rfl⟩, hL, hcl⟩
          rw [List.getElem?_map] at hy
          cases hv : (ws.drop (i + 1))[j]? with
          | none => rw [hv] at hy; cases hy
          | some v =>
            rw [hv] at hy
            cases hy
            have bad : clash u v = true → Q (.bl false) H2 := fun e => by
              refine k false _ ⟨fun z => by (cases z), fun ap => ?_⟩ s4
              rw [List.getElem?_drop] at hv
              have := apart_iff.mp ap i (i + 1 + j) u v (by omega) hu hv
              rw [e] at this; cases this
            walk_at "go"
            refine i_m1' ?_
            walk_at "go"
            refine ⟨⟨_, rfl⟩, _, rfl, _, _, rfl, rfl, _, rfl, ?_⟩
            refine i_itb (fun h1 => ?_) (fun h1 => ?_)
            · refine i_yes rfl ?_
              exact bad (by unfold clash; rw [h1]; rfl)
            walk_at "go"
            refine i_m1' ?_
            walk_at "go"
            refine ⟨⟨_, rfl⟩, _, rfl, _, _, rfl, rfl, _, rfl, ?_⟩
            refine i_itb (fun h2 => ?_) (fun h2 => ?_)
            · exact bad (by unfold clash; rw [h2, Bool.or_true])
            · refine ⟨s4, ⟨_, rfl⟩, hL, fun n v' hn hv' => ?_⟩
              by_cases q : n < j
              · exact hcl n v' q hv'
              · have e : n = j := by omega
                subst e
                rw [hv] at hv'
                cases hv'
                unfold clash; rw [h1, h2]; rfl
        · rintro σ H2 ⟨s4, ⟨z, rfl⟩, hL, hcl⟩
          refine ⟨s4, ⟨_, _, _, rfl⟩, fun m n u' v' h1 h2 hm hn => ?_⟩
          by_cases q : m < i
          · exact hc m n u' v' q h2 hm hn
          · have e : m = i := by omega
            subst e
            rw [hu] at hm
            cases hm
            refine hcl (n - (m + 1)) v' ?_ ?_
            · have := (List.getElem?_eq_some_iff.mp hn).1
              rw [List.length_map, List.length_drop]; omega
            · rw [List.getElem?_drop]
              have e2 : m + 1 + (n - (m + 1)) = n := by omega
              rw [e2]; exact hn
    · rintro σ H1 ⟨s1, ⟨x, y, u, rfl⟩, hc⟩
      walk_at "go"
      refine k true _ ⟨fun _ => apart_iff.mpr fun m n u v lt hm hn => hc m n u v ?_ lt hm hn, fun _ => rfl⟩ s1
      rw [List.length_map]
      exact (List.getElem?_eq_some_iff.mp hm).1
end
end Me
set_option maxHeartbeats 8000000
namespace Me
open PySem L2


/-- a thing in a list that is passed: what class of the text it is of, its word and name -/
structure El where
  v : V
  k : Option Nat
  w : Str
  n : Str
def ElFs (e : El) (y : V) : List (Str × V) := if e.k = some 7 then [("name", .str e.n), ("kind", y)] else [("word", .str e.w), ("name", .str e.n), ("kind", y)]
structure ElAt (a : Ad) (H : Hp) (e : El) : Prop where
  itm : Itm a H e.v e.k
  fs : isK e.k [5, 6, 7, 8] = true → ∃ p i dx y, e.v = .ref p ∧ i < 11 ∧ e.k = some i ∧ H p = some (.ins (a.C i) dx (ElFs e y))
theorem ElAt.soft {a : Ad} {H H' : Hp} {e : El} (h : ElAt a H e) (s : Soft H H') : ElAt a H' e := by
  refine ⟨h.itm.soft s, fun q => ?_⟩
  obtain ⟨p, i, dx, y, e1, e2, e3, e4⟩ := h.fs q
  exact ⟨p, i, dx, y, e1, e2, e3, s.ins e4 fun _ z => by cases z⟩
theorem isK_two {k : Option Nat} {i j : Nat} : isK k [i, j] = true ↔ k = some i ∨ k = some j := by simp [isK]
theorem ElAt.nm {K : PySem.W.Frag} {mg : Str → Option Value} {a : Ad} (T : Txt K mg a) {H : Hp} {e : El} (h : ElAt a H e) (q : isK e.k [5, 6, 7, 8] = true) : Nm K H e.v "name" e.n := by
  obtain ⟨p, i, dx, y, e1, e2, e3, e4⟩ := h.fs q
  refine ⟨p, _, dx, _, e1, e4, (T.kc i e2).cl, (T.kc i e2).no _ (by decide), ?_⟩
  unfold ElFs
  split <;> rfl
theorem ElAt.wd {K : PySem.W.Frag} {mg : Str → Option Value} {a : Ad} (T : Txt K mg a) {H : Hp} {e : El} (h : ElAt a H e) (q : isK e.k [5, 6] = true) : Nm K H e.v "word" e.w := by
  have q2 : isK e.k [5, 6, 7, 8] = true := by
    rcases isK_two.mp q with q | q <;> rw [q] <;> rfl
  obtain ⟨p, i, dx, y, e1, e2, e3, e4⟩ := h.fs q2
  refine ⟨p, _, dx, _, e1, e4, (T.kc i e2).cl, (T.kc i e2).no _ (by decide), ?_⟩
  unfold ElFs
  rw [if_neg]
  · rfl
  · intro z; rw [z] at q; cases q
/-- a list or tuple of these -/
def LT (H : Hp) (A : Addr) (xs : List V) : Prop := H A = some (.lst xs) ∨ H A = some (.tup xs)
theorem LT.same {H H' : Hp} {A : Addr} {xs : List V} (h : LT H A xs) (s : Same H H') : LT H' A xs := h.imp (s _ _) (s _ _)
theorem LT.sq {K : PySem.W.Frag} {H : Hp} {A : Addr} {xs : List V} (h : LT H A xs) : Sq K H A xs := h.imp SqL.of SqT.of
/-- what is passed: a list or tuple of these, or another thing -/
inductive Pas (a : Ad) (H : Hp) : V → Option (List El) → Prop where
  | seq {A : Addr} {es : List El} (h : LT H A (es.map (·.v))) (hs : es.length ≤ 100) (he : ∀ e ∈ es, ElAt a H e) : Pas a H (.ref A) (some es)
  | oth {v : V} (h : Th H v) (n : ∀ q xs, v = .ref q → H q ≠ some (.lst xs) ∧ H q ≠ some (.tup xs)) : Pas a H v none
theorem el_lc {K : PySem.W.Frag} {te : TE} {σ : L2.St} {H : Hp} {Q : VK} {A : Addr} {j k : Nat} {es : List El} (f : El → V) (h0 : σ[j]? = some (some (.ref A))) (hA : LT H A (es.map (·.v))) (sm : es.length ≤ 100) (hw : ∀ x, wipe ((wipe σ [k]).set k (some x)) [k] = wipe σ [k])
    (st : ∀ e ∈ es, ∀ H1 (R : VK), Same H H1 → (∀ H4, Same H1 H4 → R (f e) H4) → te ((wipe σ [k]).set k (some e.v)) H1 R)
    (kk : ∀ D H', H D = none → Same H H' → H' D = some (.lst (es.map f)) → Q (.ref D) H') : tLc (iSq K j) (gName k) tYes te [k] σ H Q := by
  refine many_lc (xs := es.map (·.v)) (fun i y _ => (es.map f)[i]? = some y) (fun _ _ _ _ _ h => h) h0 hA.sq (by rw [List.length_map]; exact Nat.lt_of_le_of_lt sm (by decide)) hw (fun i x H1 R hx s1 q => ?_) (fun D ys H' nD s e hl hr => ?_)
  · rw [List.getElem?_map] at hx
    cases he : es[i]? with
    | none => rw [he] at hx; cases hx
    | some e =>
      rw [he] at hx
      cases hx
      exact st e (List.mem_of_getElem? he) H1 R s1 fun H4 s4 => q _ H4 s4 (by rw [List.getElem?_map, he]; rfl)
  · have : ys = es.map f := by
      refine List.ext_getElem? fun i => ?_
      cases hy : ys[i]? with
      | none =>
        have := List.getElem?_eq_none_iff.mp hy
        rw [hl, List.length_map] at this
        exact (List.getElem?_eq_none (by rw [List.length_map]; exact this)).symm
      | some y => exact (hr i y hy).symm
    rw [this] at e
    exact kk D H' nD s e
def waysP (es : List El) : Prop := (1 ≤ es.length ∧ es.length ≤ 12) ∧ (∀ e ∈ es, isK e.k [5, 6] = true) ∧ (∃ e ∈ es, e.k = some 5) ∧ (es.map (·.n)).Nodup ∧ Apart (es.map (·.w))
def partsP (es : List El) : Prop := (1 ≤ es.length ∧ es.length ≤ 8) ∧ (∀ e ∈ es, isK e.k [7, 8] = true) ∧ (∃ e, es.getLast? = some e ∧ e.k = some 7) ∧ (es.map (·.n)).Nodup
/-- isinstance(x, (list, tuple)) -/
theorem i_lt {K : PySem.W.Frag} {H : Hp} {Q : VK} {v : V} {tp : Addr} {t : String} {b c : Bool} (ty : TyX K H v (.type t)) (e1 : kitB t "list" = some b) (e2 : kitB t "tuple" = some c) (ht : H tp = some (.tup [.ty "list", .ty "tuple"])) (q : Q (.bl (b || (c || false))) H) : rIsiT K [v, .ref tp] H Q :=
  ⟨_, tp, _, .type t, [.type "list", .type "tuple"], _, rfl, ht, .cons (.ty _) (.cons (.ty _) .nil), ty, kitAny_or (kit_ty e1) (kitAny_or (kit_ty e2) rfl), q⟩
theorem i_ltS {K : PySem.W.Frag} {H : Hp} {Q : VK} {A tp : Addr} {xs : List V} (h : LT H A xs) (ht : H tp = some (.tup [.ty "list", .ty "tuple"])) (q : Q (.bl true) H) : rIsiT K [.ref A, .ref tp] H Q := by
  rcases h with h | h
  · exact i_lt (.base (.lst h)) kb_list_list kb_list_tuple ht q
  · exact i_lt (.base (.tup h)) kb_tuple_list kb_tuple_tuple ht q
section
variable {P : Program} {w : World} {K : PySem.W.Frag} {mg : Str → Option Value} {base : Heap} {a : Ad}
def spWaysG (a : Ad) : Sp := fun vs H Q _ => ∃ (v : V) (o : Option (List El)), vs = [v] ∧ Pas a H v o ∧ ∀ (b : Bool) H', (b = true ↔ ∃ es, o = some es ∧ waysP es) → Same H H' → Q (.bl b) H'
theorem ok_waysG (T : Txt K mg a) : FnOk P w K mg base CX0 2 a.are_ways.f a.are_ways.fd ["thing"] (spWaysG a) := by
  have G_have_unlike_names : FnOk P w K mg base CX0 1 a.have_unlike_names.f a.have_unlike_names.fd ["things"] (spUnlike K) := ok_unlike T
  have G_are_apart : FnOk P w K mg base CX0 1 a.are_apart.f a.are_apart.fd ["words"] spApart := ok_apart T
  have sc : FnScope ["thing", "way"] ["thing"] (defScope (top 23)) := ⟨rfl, rfl, rfl, by decide +kernel, rfl, by decide +kernel, by decide +kernel⟩
  refine T.are_ways.ok sc (fun vs H Q E h => ?_) (fun cdv A' outer s H vs Q E hr h => ?_)
  · obtain ⟨v, o, rfl, _⟩ := h
    rfl
  · obtain ⟨v, o, rfl, hv, k⟩ := h
    refine ⟨_, (pss_cons (ps_if (PW.pt (pw_or (pt_not (pt_val (pe_callB call_isiT (by rfl) T.isinstance (by decide +kernel) (pa_cons (pv 0) (pa_cons (pe_tup (pa_cons (pe_bltn (v := .ty "list") (by rfl) T.list (by decide +kernel) rfl) (pa_cons (pe_bltn (v := .ty "tuple") (by rfl) T.tuple (by decide +kernel) rfl) pa_nil))) pa_nil))))) (pw_or1 (pt_not (pt_chain op_le op_le pe_int (pe_callB call_len_seq (by rfl) T.len PySem.boot_len (pa_cons (pv 0) pa_nil)) pe_int)))))
      (pss_one (ps_ret pe_bl))
      pss_nil)
      (pss_cons (ps_if (pt_not (pt_val (pe_callB (cr_all rfl) (by rfl) T.all (by decide +kernel) (pa_cons (pe_lc (te := tCB (rIsiT K) (tCons (tVar 1) (tCons (tTup (tCons (tC (.ref (a.C 5))) (tCons (tC (.ref (a.C 6))) tNil))) tNil))) (own := [("way", 1)]) (g := gName 1) (by rfl) sc.nd (pi_sqv (pv 0)) (blkOk_by (own := [("way", 1)]) (N := ["thing", "way"]) (sc := defScope (top 23)) (by decide +kernel)) (fun _ _ _ _ _ => pg_name (i := 1) sc.nd rfl (Or.inl rfl)) (fun _ _ _ _ _ => pts_nil) (fun _ _ _ _ _ => (by exact (pe_callB call_isiT (by rfl) T.isinstance (by decide +kernel) (pa_cons (pv 1) (pa_cons (pe_tup (pa_cons (pe_glob (v := .ref (a.C 5)) rfl (T.kc 5 (by decide)).gl rfl) (pa_cons (pe_glob (v := .ref (a.C 6)) rfl (T.kc 6 (by decide)).gl rfl) pa_nil))) pa_nil)))))) pa_nil))))
      (pss_one (ps_ret pe_bl))
      pss_nil)
      (pss_cons (ps_if (pt_not (pt_val (pe_callB (cr_any rfl) (by rfl) T.any (by decide +kernel) (pa_cons (pe_lc (te := tCB (rIsi K) (tCons (tVar 1) (tCons (tC (.ref (a.C 5))) tNil))) (own := [("way", 1)]) (g := gName 1) (by rfl) sc.nd (pi_sqv (pv 0)) (blkOk_by (own := [("way", 1)]) (N := ["thing", "way"]) (sc := defScope (top 23)) (by decide +kernel)) (fun _ _ _ _ _ => pg_name (i := 1) sc.nd rfl (Or.inl rfl)) (fun _ _ _ _ _ => pts_nil) (fun _ _ _ _ _ => (by exact (pe_callB call_isi (by rfl) T.isinstance (by decide +kernel) (pa_cons (pv 1) (pa_cons (pe_glob (v := .ref (a.C 5)) rfl (T.kc 5 (by decide)).gl rfl) pa_nil)))))) pa_nil))))
      (pss_one (ps_ret pe_bl))
      pss_nil)
      (pss_one (ps_ret (pe_and (pe_call G_have_unlike_names (hr.mono (by first | decide | omega)) rfl T.have_unlike_names.mg T.have_unlike_names.kp T.have_unlike_names.b .nil pass0 (pa_cons (pv 0) pa_nil)) (pe_one (pe_call G_are_apart (hr.mono (by first | decide | omega)) rfl T.are_apart.mg T.are_apart.kp T.are_apart.b .nil pass0 (pa_cons (pe_lc (te := tFld K (tVar 1) "word") (own := [("way", 1)]) (g := gName 1) (by rfl) sc.nd (pi_sqv (pv 0)) (blkOk_by (own := [("way", 1)]) (N := ["thing", "way"]) (sc := defScope (top 23)) (by decide +kernel)) (fun _ _ _ _ _ => pg_name (i := 1) sc.nd rfl (Or.inl rfl)) (fun _ _ _ _ _ => pts_nil) (fun _ _ _ _ _ => (by exact (pe_fld (pv 1) rfl)))) pa_nil))))))))), ?_⟩
    walk_at "go"
    rename_i tp ntp
    have s1 := same_new (o := .tup [.ty "list", .ty "tuple"]) same_rfl ntp
    have htp := upd_same (H := H) (a := tp) (o := .tup [.ty "list", .ty "tuple"])
    generalize upd H tp (.tup [.ty "list", .ty "tuple"]) = H1 at s1 htp ⊢
    cases hv with
    | oth h n =>
      have no : Q (.bl false) H1 := k false _ ⟨fun z => (by cases z), fun ⟨es, z, _⟩ => by cases z⟩ s1
      cases h with
      | non => exact i_lt (.base .non) kb_NoneType_list kb_NoneType_tuple htp ⟨_, rfl, i_yes rfl no⟩
      | bl b => exact i_lt (.base (.bl b)) kb_bool_list kb_bool_tuple htp ⟨_, rfl, i_yes rfl no⟩
      | int i => exact i_lt (.base (.int i)) kb_int_list kb_int_tuple htp ⟨_, rfl, i_yes rfl no⟩
      | str z => exact i_lt (.base (.str z)) kb_str_list kb_str_tuple htp ⟨_, rfl, i_yes rfl no⟩
      | tup h => exact absurd h (n _ _ rfl).2
      | lst h => exact absurd h (n _ _ rfl).1
      | dK h => exact i_lt (.base (.dK (s1 _ _ h))) kb_dict_list kb_dict_tuple htp ⟨_, rfl, i_yes rfl no⟩
    | @seq A es hA hs he =>
      have no : ∀ H', Same H H' → ¬ waysP es → Q (.bl false) H' := fun H' s q => k false _ ⟨fun z => (by cases z), fun ⟨es', z, w⟩ => by cases z; exact absurd w q⟩ s
      have hA1 := hA.same s1
      refine i_ltS hA1 htp ⟨_, rfl, i_no rfl ?_⟩
      walk_at "go"
      refine i_chain ?_
      walk_at "go"
      refine ⟨A, _, rfl, hA1.sq, ?_⟩
      walk_at "go"
      have el : (es.map (·.v)).length = es.length := List.length_map ..
      refine i_itd (fun h1 => ?_) (fun h1 => ?_)
      rotate_left
      · exact ⟨_, rfl, i_yes rfl (no _ s1 fun q => h1 (by rw [el]; have := q.1.1; omega))⟩
      walk_at "go"
      refine i_itn (fun h2 => ?_) (fun h2 => ?_)
      · exact (no _ s1 fun q => h2 (by rw [el]; have := q.1.2; omega))
      rw [el] at h1 h2
      walk_at "go"
      refine el_lc (fun e => .bl (isK e.k [5, 6])) rfl hA1 hs (fun _ => rfl) (fun e me H2 R s2 kR => ?_) (fun D2 H2 nD2 s2 h2 => ?_)
      · walk_at "go"
        rename_i tp2 ntp2
        have s3 := same_new (o := .tup [.ref (a.C 5), .ref (a.C 6)]) same_rfl ntp2
        exact i_isT T [5, 6] (by decide) ((((he e me).itm.same s1).same s2).same s3) upd_same (kR _ s3)
      have s12 := s1.trans s2
      walk_at "go"
      refine ⟨D2, es.map fun e => isK e.k [5, 6], rfl, SqL.of (by rw [List.map_map]; exact h2), ⟨_, rfl, ?_⟩⟩
      by_cases q1 : ∀ e ∈ es, isK e.k [5, 6] = true
      rotate_left
      · refine i_yes ?_ (no _ s12 fun q => q1 q.2.1)
        rw [Bool.not_eq_true']
        refine Bool.eq_false_iff.mpr fun z => q1 fun e me => ?_
        simp only [List.all_map, List.all_eq_true, Function.comp, id_eq] at z
        exact z e me
      refine i_no ?_ ?_
      · rw [Bool.not_eq_false']
        simp only [List.all_map, List.all_eq_true, Function.comp, id_eq]
        exact q1
      walk_at "go"
      refine el_lc (fun e => .bl (decide (e.k = some 5))) rfl (hA1.same s2) hs (fun _ => rfl) (fun e me H3 R s3 kR => ?_) (fun D3 H3 nD3 s3 h3 => ?_)
      · walk_at "go"
        exact i_isC T (by decide) (((he e me).itm.same s12).same s3) (kR _ same_rfl)
      have s13 := s12.trans s3
      walk_at "go"
      refine ⟨D3, es.map fun e => decide (e.k = some 5), rfl, SqL.of (by rw [List.map_map]; exact h3), ⟨_, rfl, ?_⟩⟩
      by_cases q2 : ∃ e ∈ es, e.k = some 5
      rotate_left
      · refine i_yes ?_ (no _ s13 fun q => q2 q.2.2.1)
        rw [Bool.not_eq_true']
        refine Bool.eq_false_iff.mpr fun z => q2 ?_
        simp only [List.any_map, List.any_eq_true, Function.comp, id_eq, decide_eq_true_eq] at z
        exact z
      refine i_no ?_ ?_
      · rw [Bool.not_eq_false']
        simp only [List.any_map, List.any_eq_true, Function.comp, id_eq, decide_eq_true_eq]
        exact q2
      walk_at "go"
      have big : ∀ e ∈ es, isK e.k [5, 6, 7, 8] = true := fun e me => by
        rcases isK_two.mp (q1 e me) with q | q <;> rw [q] <;> rfl
      refine ⟨A, es.map (·.v), es.map (·.n), rfl, (hA1.same (s2.trans s3)).sq, by rw [List.length_map, List.length_map], by rw [List.length_map]; exact hs, fun i x hx => ?_, fun b H4 hb s4 => ?_⟩
      · rw [List.getElem?_map] at hx
        cases hei : es[i]? with
        | none => rw [hei] at hx; cases hx
        | some e =>
          rw [hei] at hx
          cases hx
          have me := List.mem_of_getElem? hei
          exact ⟨e.n, by rw [List.getElem?_map, hei]; rfl, ((he e me).soft (Same.soft s13)).nm T (big e me)⟩
      refine ⟨_, rfl, ?_⟩
      have s14 := s13.trans s4
      cases b with
      | false => exact i_no rfl (no _ s14 fun q => by have := hb.mpr q.2.2.2.1; cases this)
      | true =>
        refine i_yes rfl ?_
        walk_at "go"
        refine el_lc (fun e => .str e.w) rfl (((hA1.same s2).same s3).same s4) hs (fun _ => rfl) (fun e me H5 R s5 kR => ?_) (fun D5 H5 nD5 s5 h5 => ?_)
        · obtain ⟨p, C, dx, fs, e1, e2, e3, e4, e5⟩ := ((he e me).soft (Same.soft (s14.trans s5))).wd T (q1 e me)
          exact ⟨_, rfl, p, C, dx, fs, _, e1, e2, e3, e4, e5, kR _ same_rfl⟩
        walk_at "go"
        refine ⟨D5, es.map (·.w), rfl, by rw [List.map_map]; exact h5, by rw [List.length_map]; exact hs, fun b H6 hb2 s6 => ?_⟩
        refine k b _ ⟨fun z => ⟨es, rfl, ⟨by omega, by omega⟩, q1, q2, hb.mp rfl, hb2.mp z⟩, fun ⟨es', z, q⟩ => ?_⟩ ((s14.trans s5).trans s6)
        cases z
        exact hb2.mpr q.2.2.2.2
end
end Me
set_option maxHeartbeats 8000000
namespace Me
open PySem L2


section
variable {P : Program} {w : World} {K : PySem.W.Frag} {mg : Str → Option Value} {base : Heap} {a : Ad}
def spPartsG (a : Ad) : Sp := fun vs H Q _ => ∃ (v : V) (o : Option (List El)), vs = [v] ∧ Pas a H v o ∧ ∀ (b : Bool) H', (b = true ↔ ∃ es, o = some es ∧ partsP es) → Same H H' → Q (.bl b) H'
theorem ok_partsG (T : Txt K mg a) : FnOk P w K mg base CX0 2 a.are_parts.f a.are_parts.fd ["thing"] (spPartsG a) := by
  have G_have_unlike_names : FnOk P w K mg base CX0 1 a.have_unlike_names.f a.have_unlike_names.fd ["things"] (spUnlike K) := ok_unlike T
  have sc : FnScope ["thing", "part"] ["thing"] (defScope (top 24)) := ⟨rfl, rfl, rfl, by decide +kernel, rfl, by decide +kernel, by decide +kernel⟩
  refine T.are_parts.ok sc (fun vs H Q E h => ?_) (fun cdv A' outer s H vs Q E hr h => ?_)
  · obtain ⟨v, o, rfl, _⟩ := h
    rfl
  · obtain ⟨v, o, rfl, hv, k⟩ := h
    refine ⟨_, (pss_cons (ps_if (PW.pt (pw_or (pt_not (pt_val (pe_callB call_isiT (by rfl) T.isinstance (by decide +kernel) (pa_cons (pv 0) (pa_cons (pe_tup (pa_cons (pe_bltn (v := .ty "list") (by rfl) T.list (by decide +kernel) rfl) (pa_cons (pe_bltn (v := .ty "tuple") (by rfl) T.tuple (by decide +kernel) rfl) pa_nil))) pa_nil))))) (pw_or1 (pt_not (pt_chain op_le op_le pe_int (pe_callB call_len_seq (by rfl) T.len PySem.boot_len (pa_cons (pv 0) pa_nil)) pe_int)))))
      (pss_one (ps_ret pe_bl))
      pss_nil)
      (pss_cons (ps_if (pt_not (pt_val (pe_callB (cr_all rfl) (by rfl) T.all (by decide +kernel) (pa_cons (pe_lc (te := tCB (rIsiT K) (tCons (tVar 1) (tCons (tTup (tCons (tC (.ref (a.C 7))) (tCons (tC (.ref (a.C 8))) tNil))) tNil))) (own := [("part", 1)]) (g := gName 1) (by rfl) sc.nd (pi_sqv (pv 0)) (blkOk_by (own := [("part", 1)]) (N := ["thing", "part"]) (sc := defScope (top 24)) (by decide +kernel)) (fun _ _ _ _ _ => pg_name (i := 1) sc.nd rfl (Or.inl rfl)) (fun _ _ _ _ _ => pts_nil) (fun _ _ _ _ _ => (by exact (pe_callB call_isiT (by rfl) T.isinstance (by decide +kernel) (pa_cons (pv 1) (pa_cons (pe_tup (pa_cons (pe_glob (v := .ref (a.C 7)) rfl (T.kc 7 (by decide)).gl rfl) (pa_cons (pe_glob (v := .ref (a.C 8)) rfl (T.kc 8 (by decide)).gl rfl) pa_nil))) pa_nil)))))) pa_nil))))
      (pss_one (ps_ret pe_bl))
      pss_nil)
      (pss_one (ps_ret (pe_and (pe_callB call_isi (by rfl) T.isinstance (by decide +kernel) (pa_cons (pe_ix ix_seq (pv 0) (pe_un un_neg pe_int) (fun _ _ => rfl)) (pa_cons (pe_glob (v := .ref (a.C 7)) rfl (T.kc 7 (by decide)).gl rfl) pa_nil))) (pe_one (pe_call G_have_unlike_names (hr.mono (by first | decide | omega)) rfl T.have_unlike_names.mg T.have_unlike_names.kp T.have_unlike_names.b .nil pass0 (pa_cons (pv 0) pa_nil)))))))), ?_⟩
    walk_at "go"
    rename_i tp ntp
    have s1 := same_new (o := .tup [.ty "list", .ty "tuple"]) same_rfl ntp
    have htp := upd_same (H := H) (a := tp) (o := .tup [.ty "list", .ty "tuple"])
    generalize upd H tp (.tup [.ty "list", .ty "tuple"]) = H1 at s1 htp ⊢
    cases hv with
    | oth h n =>
      have no : Q (.bl false) H1 := k false _ ⟨fun z => (by cases z), fun ⟨es, z, _⟩ => by cases z⟩ s1
      cases h with
      | non => exact i_lt (.base .non) kb_NoneType_list kb_NoneType_tuple htp ⟨_, rfl, i_yes rfl no⟩
      | bl b => exact i_lt (.base (.bl b)) kb_bool_list kb_bool_tuple htp ⟨_, rfl, i_yes rfl no⟩
      | int i => exact i_lt (.base (.int i)) kb_int_list kb_int_tuple htp ⟨_, rfl, i_yes rfl no⟩
      | str z => exact i_lt (.base (.str z)) kb_str_list kb_str_tuple htp ⟨_, rfl, i_yes rfl no⟩
      | tup h => exact absurd h (n _ _ rfl).2
      | lst h => exact absurd h (n _ _ rfl).1
      | dK h => exact i_lt (.base (.dK (s1 _ _ h))) kb_dict_list kb_dict_tuple htp ⟨_, rfl, i_yes rfl no⟩
    | @seq A es hA hs he =>
      have no : ∀ H', Same H H' → ¬ partsP es → Q (.bl false) H' := fun H' s q => k false _ ⟨fun z => (by cases z), fun ⟨es', z, w⟩ => by cases z; exact absurd w q⟩ s
      have hA1 := hA.same s1
      refine i_ltS hA1 htp ⟨_, rfl, i_no rfl ?_⟩
      walk_at "go"
      refine i_chain ?_
      walk_at "go"
      refine ⟨A, _, rfl, hA1.sq, ?_⟩
      walk_at "go"
      have el : (es.map (·.v)).length = es.length := List.length_map ..
      refine i_itd (fun h1 => ?_) (fun h1 => ?_)
      rotate_left
      · exact ⟨_, rfl, i_yes rfl (no _ s1 fun q => h1 (by rw [el]; have := q.1.1; omega))⟩
      walk_at "go"
      refine i_itn (fun h2 => ?_) (fun h2 => ?_)
      · exact (no _ s1 fun q => h2 (by rw [el]; have := q.1.2; omega))
      rw [el] at h1 h2
      walk_at "go"
      refine el_lc (fun e => .bl (isK e.k [7, 8])) rfl hA1 hs (fun _ => rfl) (fun e me H2 R s2 kR => ?_) (fun D2 H2 nD2 s2 h2 => ?_)
      · walk_at "go"
        rename_i tp2 ntp2
        have s3 := same_new (o := .tup [.ref (a.C 7), .ref (a.C 8)]) same_rfl ntp2
        exact i_isT T [7, 8] (by decide) ((((he e me).itm.same s1).same s2).same s3) upd_same (kR _ s3)
      have s12 := s1.trans s2
      walk_at "go"
      refine ⟨D2, es.map fun e => isK e.k [7, 8], rfl, SqL.of (by rw [List.map_map]; exact h2), ⟨_, rfl, ?_⟩⟩
      by_cases q1 : ∀ e ∈ es, isK e.k [7, 8] = true
      rotate_left
      · refine i_yes ?_ (no _ s12 fun q => q1 q.2.1)
        rw [Bool.not_eq_true']
        refine Bool.eq_false_iff.mpr fun z => q1 fun e me => ?_
        simp only [List.all_map, List.all_eq_true, Function.comp, id_eq] at z
        exact z e me
      refine i_no ?_ ?_
      · rw [Bool.not_eq_false']
        simp only [List.all_map, List.all_eq_true, Function.comp, id_eq]
        exact q1
      walk_at "go"
      obtain ⟨l0, e0, he0⟩ : ∃ l0 e0, es = l0 ++ [e0] := ⟨_, _, (List.dropLast_concat_getLast (fun z => by rw [z] at h1; simp at h1 : es ≠ [])).symm⟩
      have hl0 : es.getLast? = some e0 := by rw [he0]; simp
      have me0 : e0 ∈ es := by rw [he0]; simp
      have e1 : atI (es.map (·.v)) (-1) = some e0.v := by rw [he0, List.map_append]; exact atI_last _ _
      have hA2 := hA1.same s2
      have cont : ∀ R : VK, R e0.v H2 → rIx K (.ref A) (.int (-1)) H2 R := fun R q => by
        rcases hA2 with h | h
        · exact .inl ⟨A, _, _, e0.v, rfl, rfl, SqL.of h, e1, q⟩
        · exact .inr (.inl ⟨A, _, _, e0.v, rfl, rfl, SqT.of h, e1, q⟩)
      refine cont _ ?_
      walk_at "go"
      refine i_isC T (j := 7) (by decide) ((he e0 me0).itm.same s12) ⟨_, rfl, ?_⟩
      by_cases q2 : e0.k = some 7
      rotate_left
      · refine i_no (decide_eq_false q2) (no _ s12 fun q => q2 ?_)
        obtain ⟨e, h, h'⟩ := q.2.2.1
        rw [hl0] at h; cases h; exact h'
      refine i_yes (decide_eq_true q2) ?_
      walk_at "go"
      have big : ∀ e ∈ es, isK e.k [5, 6, 7, 8] = true := fun e me => by
        rcases isK_two.mp (q1 e me) with q | q <;> rw [q] <;> rfl
      refine ⟨A, es.map (·.v), es.map (·.n), rfl, hA2.sq, by rw [List.length_map, List.length_map], by rw [List.length_map]; exact hs, fun i x hx => ?_, fun b H4 hb s4 => ?_⟩
      · rw [List.getElem?_map] at hx
        cases hei : es[i]? with
        | none => rw [hei] at hx; cases hx
        | some e =>
          rw [hei] at hx
          cases hx
          have me := List.mem_of_getElem? hei
          exact ⟨e.n, by rw [List.getElem?_map, hei]; rfl, ((he e me).soft (Same.soft s12)).nm T (big e me)⟩
      refine k b _ ⟨fun z => ⟨es, rfl, ⟨by omega, by omega⟩, q1, ⟨e0, hl0, q2⟩, hb.mp z⟩, fun ⟨es', z, q⟩ => ?_⟩ (s12.trans s4)
      cases z
      exact hb.mpr q.2.2.2
end
end Me
set_option maxHeartbeats 8000000
namespace Me
open PySem L2


/-- made of what is passed, or refused -/
def MadeOf (a : Ad) (i : Nat) (f : Str) (pr : List El → Prop) (o : Option (List El)) (x dx : Addr) (H : Hp) (Q : VK) (E : XK) : Prop :=
  (∀ es, o = some es → pr es → ∀ H' t, Kept H x H' → H' x = some (.ins (a.C i) dx [(f, .ref t)]) → H' t = some (.tup (es.map (·.v))) → Q .non H') ∧
  ((¬ ∃ es, o = some es ∧ pr es) → ∀ d H', Same H H' → H' d = some (.xd [("part", .str f)]) → E (.ref a.bad) (some d) H')
section
variable {P : Program} {w : World} {K : PySem.W.Frag} {mg : Str → Option Value} {base : Heap} {a : Ad}
def spChoiceG (a : Ad) : Sp := fun vs H Q E => ∃ x dx v o, vs = [.ref x, v] ∧ H x = some (.ins (a.C 9) dx []) ∧ Pas a H v o ∧ MadeOf a 9 "ways" waysP o x dx H Q E
theorem ok_ChoiceG (T : Txt K mg a) : FnOk P w K mg base (L2.CX P w) 3 (a.I 9).f (a.I 9).fd ["self", "ways"] (spChoiceG a) := by
  have G_are_ways : FnOk P w K mg base CX0 2 a.are_ways.f a.are_ways.fd ["thing"] (spWaysG a) := ok_waysG T
  have sc : FnScope ["self", "ways"] ["self", "ways"] (defScope (inClass (top 20) 0)) := ⟨rfl, rfl, rfl, by decide +kernel, rfl, by decide +kernel, by decide +kernel⟩
  refine ok0x T.I9 sc (fun vs H Q E h => ?_) (fun cdv A' outer s H vs Q E hr h => ?_)
  · obtain ⟨x, dx, v, o, rfl, _⟩ := h
    rfl
  · obtain ⟨x, dx, v, o, rfl, hx, hv, k1, k2⟩ := h
    have tk : Takes (cxOf (L2.CX P w) P w K mg base ["self", "ways"] "Choice.__init__" (defScope (inClass (top 20) 0)) (a.I 9).f cdv A' outer s H E) (fun cls d _ H => E cls d H) := takes_of rfl rfl rfl rfl
    have kc := T.kc 9 (by decide)
    refine ⟨_, (pss_cons (ps_if (pt_not (pt_val (pe_call G_are_ways (hr.mono (by first | decide | omega)) rfl T.are_ways.mg T.are_ways.kp T.are_ways.b .nil pass0 (pa_cons (pv 1) pa_nil))))
      (pss_one (ps_bad T.bad rfl (hr.mono (by decide)) tk))
      pss_nil)
      (pss_one (ps_fld (pv 0) (pe_callTy call_tuple_of (by rfl) T.tuple (by decide +kernel) (pa_cons (pv 1) pa_nil)) rfl))), ?_⟩
    walk_at "go"
    refine ⟨v, o, rfl, hv, fun b H1 hb s1 => ?_⟩
    cases b with
    | false =>
      refine ⟨_, rfl, i_yes rfl ?_⟩
      intro d nd
      exact k2 (fun z => by have := hb.mpr z; cases this) d _ (same_new s1 nd) upd_same
    | true =>
      refine ⟨_, rfl, i_no rfl ?_⟩
      obtain ⟨es, rfl, q⟩ := hb.mp rfl
      cases hv with
      | seq hA hs he =>
        walk_at "go"
        dsimp only
        refine i_sfld ?_
        walk_at "go"
        rcases hA with hA | hA
        · refine ⟨_, _, rfl, .inl ⟨SqL.of (s1 _ _ hA), fun t nt => ?_⟩⟩
          have s2 := same_new (o := .tup (es.map (·.v))) s1 nt
          walk_at "go"
          refine ⟨x, _, dx, [], rfl, s2 _ _ hx, kc.cl, kc.no _ (by decide), by decide, ?_⟩
          have nx : t ≠ x := (ne_of_none (s1 _ _ hx) nt).symm
          exact k1 es rfl q _ t (Kept.upd fun b o _ e => s2 b o e) upd_same (by rw [upd_ne nx, upd_same])
        · refine ⟨_, _, rfl, .inr ⟨SqT.of (s1 _ _ hA), ?_⟩⟩
          walk_at "go"
          refine ⟨x, _, dx, [], rfl, s1 _ _ hx, kc.cl, kc.no _ (by decide), by decide, ?_⟩
          refine k1 es rfl q _ _ (Kept.upd fun b o _ e => s1 b o e) upd_same (by rw [upd_ne]; exact s1 _ _ hA; intro z; rw [z, hx] at hA; cases hA)
def spRowG (a : Ad) : Sp := fun vs H Q E => ∃ x dx v o, vs = [.ref x, v] ∧ H x = some (.ins (a.C 10) dx []) ∧ Pas a H v o ∧ MadeOf a 10 "parts" partsP o x dx H Q E
theorem ok_RowG (T : Txt K mg a) : FnOk P w K mg base (L2.CX P w) 3 (a.I 10).f (a.I 10).fd ["self", "parts"] (spRowG a) := by
  have G_are_parts : FnOk P w K mg base CX0 2 a.are_parts.f a.are_parts.fd ["thing"] (spPartsG a) := ok_partsG T
  have sc : FnScope ["self", "parts"] ["self", "parts"] (defScope (inClass (top 21) 0)) := ⟨rfl, rfl, rfl, by decide +kernel, rfl, by decide +kernel, by decide +kernel⟩
  refine ok0x T.I10 sc (fun vs H Q E h => ?_) (fun cdv A' outer s H vs Q E hr h => ?_)
  · obtain ⟨x, dx, v, o, rfl, _⟩ := h
    rfl
  · obtain ⟨x, dx, v, o, rfl, hx, hv, k1, k2⟩ := h
    have tk : Takes (cxOf (L2.CX P w) P w K mg base ["self", "parts"] "Row.__init__" (defScope (inClass (top 21) 0)) (a.I 10).f cdv A' outer s H E) (fun cls d _ H => E cls d H) := takes_of rfl rfl rfl rfl
    have kc := T.kc 10 (by decide)
    refine ⟨_, (pss_cons (ps_if (pt_not (pt_val (pe_call G_are_parts (hr.mono (by first | decide | omega)) rfl T.are_parts.mg T.are_parts.kp T.are_parts.b .nil pass0 (pa_cons (pv 1) pa_nil))))
      (pss_one (ps_bad T.bad rfl (hr.mono (by decide)) tk))
      pss_nil)
      (pss_one (ps_fld (pv 0) (pe_callTy call_tuple_of (by rfl) T.tuple (by decide +kernel) (pa_cons (pv 1) pa_nil)) rfl))), ?_⟩
    walk_at "go"
    refine ⟨v, o, rfl, hv, fun b H1 hb s1 => ?_⟩
    cases b with
    | false =>
      refine ⟨_, rfl, i_yes rfl ?_⟩
      intro d nd
      exact k2 (fun z => by have := hb.mpr z; cases this) d _ (same_new s1 nd) upd_same
    | true =>
      refine ⟨_, rfl, i_no rfl ?_⟩
      obtain ⟨es, rfl, q⟩ := hb.mp rfl
      cases hv with
      | seq hA hs he =>
        walk_at "go"
        dsimp only
        refine i_sfld ?_
        walk_at "go"
        rcases hA with hA | hA
        · refine ⟨_, _, rfl, .inl ⟨SqL.of (s1 _ _ hA), fun t nt => ?_⟩⟩
          have s2 := same_new (o := .tup (es.map (·.v))) s1 nt
          walk_at "go"
          refine ⟨x, _, dx, [], rfl, s2 _ _ hx, kc.cl, kc.no _ (by decide), by decide, ?_⟩
          have nx : t ≠ x := (ne_of_none (s1 _ _ hx) nt).symm
          exact k1 es rfl q _ t (Kept.upd fun b o _ e => s2 b o e) upd_same (by rw [upd_ne nx, upd_same])
        · refine ⟨_, _, rfl, .inr ⟨SqT.of (s1 _ _ hA), ?_⟩⟩
          walk_at "go"
          refine ⟨x, _, dx, [], rfl, s1 _ _ hx, kc.cl, kc.no _ (by decide), by decide, ?_⟩
          refine k1 es rfl q _ _ (Kept.upd fun b o _ e => s1 b o e) upd_same (by rw [upd_ne]; exact s1 _ _ hA; intro z; rw [z, hx] at hA; cases hA)
end
end Me
set_option maxHeartbeats 8000000
namespace Me
open PySem L2


/-! ### list.remove of a text -/
def eqs (k : Str) (v : Value) : Bool := match v with
  | .str n _ => n.cps.toList == k.cps.toList
  | _ => false
def rRemS : V → List V → Hp → VK → Prop := fun x xs H Q => ∃ (l : Addr) (ns : List Str) (k : Str) (j : Nat), x = .ref l ∧ xs = [.str k] ∧ H l = some (.lst (ns.map V.str)) ∧ ns[j]? = some k ∧ (∀ m : Nat, m < j → ns[m]? ≠ some k) ∧ Q .non (upd H l (.lst ((ns.eraseIdx j).map V.str)))
theorem erase_mapS (l : List Str) (j : Nat) : (l.map V.str).eraseIdx j = (l.eraseIdx j).map V.str := by
  induction l generalizing j with
  | nil => simp
  | cons a r ih => cases j with
    | zero => simp
    | succ j => simp [ih]
theorem mt_removeS {X : Cx} : MtM X "list.remove" rRemS := by
  intro pins s σ H x xs v us Q I rx rxs h
  obtain ⟨l, ns, k, j, rfl, rfl, hH, hj, hno, q⟩ := h
  cases rx
  obtain ⟨u, rfl, ru⟩ := rxs.one
  obtain ⟨t, rfl⟩ := ru
  obtain ⟨z, its, n, r, hl, e⟩ := I.lstM hH
  have hi : ∀ (i : Nat) (y : Value), its[i]? = some y → ∃ w t, ns[i]? = some w ∧ y = .str w t := fun i y hy => by
    have hlt : i < (ns.map V.str).length := by rw [r.length]; exact (List.getElem?_eq_some_iff.mp hy).1
    obtain ⟨u, hu, ru⟩ := r.get (List.getElem?_eq_getElem hlt)
    rw [hy] at hu; cases hu
    rw [List.length_map] at hlt
    refine ⟨ns[i], ?_⟩
    rw [List.getElem_map] at ru
    obtain ⟨t, rfl⟩ := ru
    exact ⟨t, List.getElem?_eq_getElem hlt, rfl⟩
  rw [List.length_map] at hl z
  have hjn : j < ns.length := (List.getElem?_eq_some_iff.mp hj).1
  have hjl : j < its.toArray.size := by rw [List.size_toArray]; omega
  refine call_meets PySem.F.slot_list_remove ⟨_, e, rfl⟩ PySem.F.entry_list_remove (PySem.F.args_list_remove_2 _ _)
    (MeetsSeq.list_remove l its.toArray n (.str k t) (eqs k) (fun y hy => ?_) j hjl ?_ ?_ (by rw [List.size_toArray]; omega)) ⟨e, ?_⟩
  · have hy : y ∈ its := by simpa using hy
    obtain ⟨i, hi'⟩ := List.getElem?_of_mem hy
    obtain ⟨w, t', _, rfl⟩ := hi i y hi'
    exact SeqRoads2.EqGives.str w k t' t
  · have hlt : j < its.length := by rw [List.size_toArray] at hjl; exact hjl
    obtain ⟨w, t', h1, h2⟩ := hi j _ (List.getElem?_eq_getElem hlt)
    rw [hj] at h1; cases h1
    have e1 : its.toArray[j] = .str k t' := by simpa using h2
    rw [e1]
    exact beq_self_eq_true k.cps.toList
  · intro m hm hmj
    have hlt : m < its.length := by rw [List.size_toArray] at hm; exact hm
    obtain ⟨w, t', h1, h2⟩ := hi m _ (List.getElem?_eq_getElem hlt)
    have e1 : its.toArray[m] = .str w t' := by simpa using h2
    rw [e1]
    refine beq_eq_false_iff_ne.mpr fun e2 => hno m hmj ?_
    rw [h1]
    have : w.cps = k.cps := Array.toList_inj.mp e2
    cases w; cases k; cases this; rfl
  · have rr := r.eraseIdx j
    rw [erase_mapS] at rr
    refine ⟨.non, _, I.lset (its' := its.eraseIdx j) (t' := s.toks) hH e ?_ rr ?_, rfl, q⟩
    · show its.toArray.eraseIdxIfInBounds j = (its.eraseIdx j).toArray
      rw [List.eraseIdxIfInBounds_toArray]
    · rw [List.length_map, List.length_eraseIdx]
      split <;> omega
end Me
set_option maxHeartbeats 8000000
namespace Me
open PySem L2


theorem at_mem' {α : Type} {xs : List α} {i : Int} (h0 : 0 ≤ i) (h1 : i < (xs.length : Int)) : ∃ v, atI xs i = some v ∧ v ∈ xs := by
  obtain ⟨j, rfl⟩ := Int.eq_ofNat_of_zero_le h0
  have hj : j < xs.length := by omega
  exact ⟨xs[j], atI_nat (List.getElem?_eq_getElem hj), List.getElem_mem hj⟩
theorem tl_add (x y : Str) : (x ++ y).cps.toList = x.cps.toList ++ y.cps.toList := by
  show (x.cps ++ y.cps).toList = _
  rw [Array.toList_append]
theorem len_add (x y : Str) : (x ++ y).length = x.length + y.length := by
  show (x.cps ++ y.cps).size = _
  rw [Array.size_append]; rfl
theorem inV_str (z : Str) (ts : List Str) : inV (.str z) (ts.map V.str) = decide (z ∈ ts) := by
  unfold inV
  induction ts with
  | nil => rfl
  | cons t r ih =>
    rw [List.map_cons, List.any_cons, ih]
    show ((t == z) || _) = _
    by_cases h : t = z
    · subst h; simp
    · have : (t == z) = false := beq_eq_false_iff_ne.mpr h
      rw [this, Bool.false_or]
      by_cases q : z ∈ r
      · rw [decide_eq_true q, decide_eq_true (List.mem_cons_of_mem _ q)]
      · rw [decide_eq_false q, decide_eq_false]
        intro m
        rcases List.mem_cons.mp m with e | e
        · exact h e.symm
        · exact q e
theorem all_flat (ts : List Str) : (ts.map V.str).all flatV = true := by
  rw [List.all_eq_true]
  intro v hv
  obtain ⟨z, _, rfl⟩ := List.mem_map.mp hv
  rfl
theorem i_inS {K : PySem.W.Frag} {neg : Bool} {t : Addr} {ts : List Str} {z : Str} {H : Hp} {Q : VK} (h : H t = some (.lst (ts.map V.str))) (q : Q (.bl (if neg then !decide (z ∈ ts) else decide (z ∈ ts))) H) : rIn K neg (.str z) (.ref t) H Q :=
  ⟨t, _, rfl, .inl (SqL.of h), rfl, all_flat ts, by rw [inV_str]; exact q⟩
theorem pigeon {α : Type} [DecidableEq α] : ∀ {l m : List α}, l.Nodup → (∀ x ∈ l, x ∈ m) → l.length ≤ m.length
  | [], m, _, _ => Nat.zero_le _
  | a :: r, m, hn, hm => by
    have ha := hm a List.mem_cons_self
    obtain ⟨h1, h2⟩ := List.nodup_cons.mp hn
    have := pigeon (l := r) (m := m.erase a) h2 fun x hx => (List.mem_erase_of_ne fun e => h1 (by rw [← e]; exact hx)).mpr (hm x (List.mem_cons_of_mem _ hx))
    rw [List.length_erase_of_mem ha] at this
    have pos : 0 < m.length := List.length_pos_of_mem ha
    rw [List.length_cons]; omega
def abc : List Nat := ("abcdefghijklmnopqrstuvwxyz" : Str).cps.toList
theorem abc_len : abc.length = 26 := by decide +kernel
theorem abc_letter : ∀ c ∈ abc, letterB c = true := by decide +kernel
theorem abc_nodup : abc.Nodup := by decide +kernel
theorem free_letter (z : Str) (ts : List Str) (h : ts.length ≤ 20) : ∃ c ∈ abc, z ++ (⟨#[c]⟩ : Str) ∉ ts := by
  refine Classical.byContradiction fun no => ?_
  have all : ∀ x ∈ abc.map fun c => z ++ (⟨#[c]⟩ : Str), x ∈ ts := fun x hx => by
    obtain ⟨c, hc, rfl⟩ := List.mem_map.mp hx
    exact Classical.byContradiction fun n => no ⟨c, hc, n⟩
  have nd : (abc.map fun c => z ++ (⟨#[c]⟩ : Str)).Nodup := by
    refine List.Pairwise.map _ (fun a b ne e => ne ?_) abc_nodup
    have := congrArg (fun s : Str => s.cps.toList) e
    simp only [tl_add] at this
    have := List.append_cancel_left this
    simpa using this
  have := pigeon nd all
  rw [List.length_map, abc_len] at this
  omega
/-- all but the reader's list and the list at t stays -/
def Went2 (p t : Addr) (H H' : Hp) : Prop := StOk H' p ∧ ∀ a o, a ≠ p → a ≠ t → H a = some o → H' a = some o
section
variable {P : Program} {w : World} {K : PySem.W.Frag} {mg : Str → Option Value} {base : Heap} {a : Ad}
def spName : Sp := fun vs H Q _ => ∃ (p t : Addr) (ts : List Str), vs = [.ref p, .ref t] ∧ StOk H p ∧ H t = some (.lst (ts.map V.str)) ∧ t ≠ p ∧ ts.length ≤ 20 ∧ (∀ L, StAt H p L → t ≠ L) ∧ ∀ (z : Str) (H' : Hp), nameS z = true → Went2 p t H H' → H' t = some (.lst ((ts ++ [z]).map V.str)) → (∀ L, StAt H p L → StAt H' p L) → Q (.str z) H'
theorem ok_name (T : Txt K mg a) : FnOk P w K mg base CX0 2 a._law_name.f a._law_name.fd ["_law_state", "_law_taken"] spName := by
  have G__law_pull : FnOk P w K mg base CX0 1 a._law_pull.f a._law_pull.fd ["_law_state", "_law_many"] spPull := ok_pull T
  have sc : FnScope ["_law_state", "_law_taken", "_law_letters", "_law_word", "_law_k", "_law_letter"] ["_law_state", "_law_taken"] (defScope (top 33)) := ⟨rfl, rfl, rfl, by decide +kernel, rfl, by decide +kernel, by decide +kernel⟩
  refine T._law_name.ok sc (fun vs H Q E h => ?_) (fun cdv A outer s H vs Q E hr h => ?_)
  · obtain ⟨p, t, ts, rfl, _⟩ := h
    rfl
  · obtain ⟨p, t, ts, rfl, S, ht, tp, hl, tL, k⟩ := h
    refine ⟨_, (pss_cons (ps_set (i := 2) sc.nd rfl (by first | exact Or.inl rfl | exact Or.inr rfl) pe_str)
      (pss_cons (ps_set (i := 3) sc.nd rfl (by first | exact Or.inl rfl | exact Or.inr rfl) pe_str)
      (pss_cons (ps_for PassesOwn.never rfl (pi_range1 rfl T.range (pa_cons (pe_ix ix_list (pe_lst (pa_cons pe_int (pa_cons pe_int (pa_cons pe_int (pa_cons pe_int pa_nil))))) (pe_call G__law_pull (hr.mono (by first | decide | omega)) rfl T._law_pull.mg T._law_pull.kp T._law_pull.b .nil pass0 (pa_cons (pv 0) (pa_cons pe_int pa_nil))) (fun _ _ => rfl)) pa_nil)) (pg_name (i := 4) sc.nd rfl (by first | exact Or.inl rfl | exact Or.inr rfl))
      (pss_one (ps_set (i := 3) sc.nd rfl (by first | exact Or.inl rfl | exact Or.inr rfl) (pe_op op_add_str (pv 3) (pe_ix ix_str (pv 2) (pe_call G__law_pull (hr.mono (by first | decide | omega)) rfl T._law_pull.mg T._law_pull.kp T._law_pull.b .nil pass0 (pa_cons (pv 0) (pa_cons pe_int pa_nil))) (fun _ _ => rfl))))))
      (pss_cons (ps_if (pt_cmpR op_in_seq (pv 3) (pv 1) (by rfl))
      (pss_one (ps_set (i := 3) sc.nd rfl (by first | exact Or.inl rfl | exact Or.inr rfl) (pe_op op_add_str (pv 3) (pe_ix ix_list (pe_lc (te := tVar 5) (tt := tTest (tOp (rIn K true) (tOp (fun x y H Q => ∃ i j, x = .str i ∧ y = .str j ∧ i.length + j.length ≤ sizeLine ∧ Q (.str (i ++ j)) H) (tVar 3) (tVar 5)) (tVar 1))) (own := [("_law_letter", 5)]) (g := gName 5) (by rfl) sc.nd (pi_str (pv 2)) (blkOk_by (own := [("_law_letter", 5)]) (N := ["_law_state", "_law_taken", "_law_letters", "_law_word", "_law_k", "_law_letter"]) (sc := defScope (top 33)) (by decide +kernel)) (fun _ _ _ _ _ => pg_name (i := 5) sc.nd rfl (Or.inl rfl)) (fun _ _ _ _ _ => (by exact (pts_one (pt_cmpR op_notIn_seq (pe_op op_add_str (pv 3) (pv 5)) (pv 1) (by rfl))))) (fun _ _ _ _ _ => (by exact (pv 5)))) pe_int (fun _ _ => rfl)))))
      pss_nil)
      (pss_cons (ps_expr (pe_bm PySem.F.plainAttrs_list PySem.F.slot_list_append PySem.F.type_list_append mt_append (pv 1) (pa_cons (pv 3) pa_nil)))
      (pss_one (ps_ret (pv 3)))))))), ?_⟩
    walk_at "go"
    refine ⟨by decide, fun n1 nn1 => ?_⟩
    walk_at "go"
    have W0 : Went p H (upd H n1 (.lst [.int 1, .int 1, .int 2, .int 7])) := (Went.rfl' S).new nn1
    refine ⟨p, _, rfl, W0.1, by decide, by decide, fun r H1 r0 r1 W1 => ?_⟩
    have W01 := W0.trans W1
    have hn1 : H1 n1 = some (.lst [.int 1, .int 1, .int 2, .int 7]) := W1.get (S.ne nn1) upd_same
    obtain ⟨m, hm, hm0, hm1⟩ : ∃ m : Int, atI [V.int 1, .int 1, .int 2, .int 7] r = some (.int m) ∧ 1 ≤ m ∧ m ≤ 7 := by
      have : r = 0 ∨ r = 1 ∨ r = 2 ∨ r = 3 := by omega
      rcases this with rfl | rfl | rfl | rfl
      · exact ⟨1, rfl, by decide, by decide⟩
      · exact ⟨1, rfl, by decide, by decide⟩
      · exact ⟨2, rfl, by decide, by decide⟩
      · exact ⟨7, rfl, by decide, by decide⟩
    refine i_ixl hn1 hm ?_
    walk_at "go"
    refine ⟨m, rfl, by omega, by omega, for_range (n := m.toNat) (fun i σ H' => ∃ (z : Str) (v v2 : Option V), σ = [some (.ref p), some (.ref t), some (.str "abcdefghijklmnopqrstuvwxyz"), some (.str z), v, v2] ∧ z.length = i ∧ z.cps.toList.all letterB = true ∧ Went p H H') ⟨"", _, _, rfl, rfl, rfl, W01⟩ ?_ ?_⟩
    · rintro i σ H2 hi ⟨z, v, v2, rfl, hz, hzl, W2⟩
      walk_at "go"
      refine ⟨p, _, rfl, W2.1, by decide, by decide, fun r4 H4 q0 q1 W4 => ?_⟩
      obtain ⟨c, hc, hmem⟩ := at_mem' (xs := abc) q0 (by rw [abc_len]; omega)
      refine ⟨_, r4, c, rfl, rfl, by decide, hc, ?_⟩
      refine ⟨_, _, rfl, rfl, Nat.le_trans (show z.length + 1 ≤ 10 by omega) (by decide), ?_⟩
      walk_at "go"
      refine ⟨z ++ ⟨#[c]⟩, _, _, rfl, ?_, ?_, W2.trans W4⟩
      · rw [len_add]; show z.length + 1 = _; omega
      · rw [tl_add, List.all_append, hzl]; simp [abc_letter c hmem]
    · rintro σ H2 ⟨z, v, v2, rfl, hz, hzl, W2⟩
      have ht2 := W2.get tp ht
      have fin : ∀ (y : Str) H3 v3 v4, nameS y = true → Went p H H3 → tSeq (tDrop (tBM K "list" rAppend (tVar 1) (tCons (tVar 3) tNil))) (tRet (tVar 3)) { nx := fun _ H' => Q .non H', rt := Q } [some (.ref p), some (.ref t), some (.str "abcdefghijklmnopqrstuvwxyz"), some (.str y), v3, v4] H3 := by
        intro y H3 v3 v4 hy W3
        have ht3 := W3.get tp ht
        walk_at "go"
        refine ⟨.ref t, rfl, .inl ⟨rfl, _, SqL.of ht3⟩, ?_⟩
        walk_at "go"
        refine ⟨t, _, _, rfl, rfl, ht3, by rw [List.length_map]; exact Nat.lt_of_le_of_lt hl (by decide), ?_⟩
        walk_at "go"
        have tL2 : ∀ L, StAt H p L → StAt (upd H3 t (.lst (ts.map V.str ++ [.str y]))) p L := fun L hL => by
          obtain ⟨ns, i, b, c, h1, h2, h3⟩ := W3.2.2 L hL
          exact ⟨ns, i, b, c, by rw [upd_ne tp.symm]; exact h1, by rw [upd_ne (tL L hL).symm]; exact h2, h3⟩
        refine k y _ hy ⟨?_, fun b o nb nt e => ?_⟩ (by rw [upd_same, List.map_append]; rfl) tL2
        · obtain ⟨L, hL⟩ := S
          exact ⟨L, tL2 L hL⟩
        · rw [upd_ne nt]; exact W3.2.1 b o nb e
      have m8 : m.toNat ≤ 7 := by omega
      have m1 : 1 ≤ m.toNat := by omega
      walk_at "go"
      refine i_inS (neg := false) ht2 ⟨_, rfl, ?_⟩
      refine i_itd (fun hin => ?_) (fun hin => ?_)
      · walk_at "go"
        refine ⟨.str "abcdefghijklmnopqrstuvwxyz", rfl, _, rfl, fun D nD => ?_⟩
        have Dp : D ≠ p := W2.1.ne nD
        have Dt : t ≠ D := ne_of_none ht2 nD
        refine lc_its (fun i H' => ∃ acc : List Nat, H' = upd H2 D (.lst (acc.map fun c => .str ⟨#[c]⟩)) ∧ (∀ c ∈ acc, letterB c = true) ∧ acc.length ≤ i ∧ (acc = [] → ∀ c, c ∈ abc.take i → z ++ (⟨#[c]⟩ : Str) ∈ ts)) ⟨[], rfl, by simp, by simp, by simp⟩ ?_ ?_
        · rintro i c H3 hc ⟨acc, rfl, hal, hai, hae⟩
          have hc' : abc[i]? = some c := by unfold abc; rw [Array.getElem?_toList]; exact hc
          have i26 : i < 26 := by rw [← abc_len]; exact (List.getElem?_eq_some_iff.mp hc').1
          refine ⟨rfl, ?_⟩
          walk_at "go"
          refine ⟨_, _, rfl, rfl, Nat.le_trans (show z.length + 1 ≤ 10 by omega) (by decide), ?_⟩
          walk_at "go"
          refine i_inS (neg := true) (by rw [upd_ne Dt]; exact ht2) ⟨_, rfl, ?_⟩
          refine i_itn (fun hn => ?_) (fun hn => ?_)
          · walk_at "go"
            refine ⟨_, upd_same, by rw [List.length_map]; exact Nat.lt_of_le_of_lt (show acc.length ≤ 26 by omega) (by decide), acc ++ [c], by rw [upd_upd, List.map_append]; rfl, ?_, ?_, fun e => by simp at e⟩
            · intro c' hc'
              rcases List.mem_append.mp hc' with h | h
              · exact hal _ h
              · rw [List.mem_singleton.mp h]; exact abc_letter _ (List.mem_of_getElem? (by assumption))
            · rw [List.length_append]; show acc.length + 1 ≤ _; omega
          · refine ⟨acc, rfl, hal, by omega, fun e c' hm => ?_⟩
            rw [take_get hc'] at hm
            rcases List.mem_append.mp hm with h | h
            · exact hae e c' h
            · rw [List.mem_singleton.mp h]; exact hn
        · rintro H3 ⟨acc, rfl, hal, hai, hae⟩
          cases acc with
          | nil =>
            obtain ⟨c, hc, hno⟩ := free_letter z ts hl
            exact absurd (hae rfl c (by
              have e : ("abcdefghijklmnopqrstuvwxyz" : Str).cps.size = abc.length := by unfold abc; rw [Array.length_toList]
              rw [e, List.take_length]; exact hc)) hno
          | cons c r =>
            walk_at "go"
            refine i_ixl upd_same (v := .str ⟨#[c]⟩) (atI_nat (j := 0) rfl) ?_
            refine ⟨_, _, rfl, rfl, Nat.le_trans (show z.length + 1 ≤ 10 by omega) (by decide), ?_⟩
            refine fin _ _ _ _ ?_ (W2.new nD)
            unfold nameS
            rw [len_add, tl_add, List.all_append, hzl, hz]
            have e1 : decide (1 ≤ m.toNat + (⟨#[c]⟩ : Str).length) = true := decide_eq_true (by omega)
            have e2 : decide (m.toNat + (⟨#[c]⟩ : Str).length ≤ 8) = true := decide_eq_true (by show m.toNat + 1 ≤ 8; omega)
            rw [e1, e2]
            have := hal c List.mem_cons_self
            simp [this]
      · refine fin _ _ _ _ ?_ W2
        unfold nameS
        rw [hzl, hz]
        have e1 : decide (1 ≤ m.toNat) = true := decide_eq_true m1
        have e2 : decide (m.toNat ≤ 8) = true := decide_eq_true (by omega)
        rw [e1, e2]; rfl
end
end Me
set_option maxHeartbeats 8000000
namespace Me
open PySem L2


theorem first_at' {α : Type} [DecidableEq α] : ∀ {l : List α} {k : α}, k ∈ l → ∃ j, l[j]? = some k ∧ ∀ m : Nat, m < j → l[m]? ≠ some k
  | a :: r, k, h => by
    by_cases e : a = k
    · exact ⟨0, by rw [e]; rfl, fun m hm => by omega⟩
    · rcases List.mem_cons.mp h with h | h
      · exact absurd h.symm e
      · obtain ⟨j, h1, h2⟩ := first_at' h
        refine ⟨j + 1, h1, fun m hm => ?_⟩
        cases m with
        | zero => intro z; exact e (Option.some.inj z)
        | succ m => exact h2 m (by omega)
theorem sum_erase {α : Type} (f : α → Nat) : ∀ {l : List α} {j : Nat} {k : α}, l[j]? = some k → (l.map f).sum = f k + ((l.eraseIdx j).map f).sum
  | a :: r, 0, k, h => by cases h; simp
  | a :: r, j + 1, k, h => by
    have := sum_erase f (l := r) (j := j) h
    simp only [List.map_cons, List.sum_cons, List.eraseIdx_cons_succ, this]
    omega
def bitsS (z : Str) : Bool := z.cps.toList.all bitB
structure WordS (z : Str) : Prop where
  l0 : 1 ≤ z.length
  l8 : z.length ≤ 8
  b : bitsS z = true
def wt (z : Str) : Nat := 2 ^ (8 - z.length)
theorem sum_ge {l : List Str} (h : ∀ z ∈ l, wt z = 1) : (l.map wt).sum = l.length := by
  induction l with
  | nil => rfl
  | cons a r ih =>
    rw [List.map_cons, List.sum_cons, ih fun z hz => h z (List.mem_cons_of_mem _ hz), h a List.mem_cons_self, List.length_cons]
    omega
theorem some_short {l : List Str} (h : ∀ z ∈ l, WordS z) (hs : (l.map wt).sum = 256) (hl : l.length ≤ 100) : (l.filter fun z => decide (z.length < 8)) ≠ [] := by
  intro e
  have : ∀ z ∈ l, wt z = 1 := fun z hz => by
    have h8 := (h z hz).l8
    have n : ¬ z.length < 8 := fun lt => by
      have : z ∈ l.filter fun z => decide (z.length < 8) := List.mem_filter.mpr ⟨hz, decide_eq_true lt⟩
      rw [e] at this; cases this
    have : z.length = 8 := by omega
    unfold wt; rw [this]
  rw [sum_ge this] at hs
  omega
theorem bits_add {x y : Str} (hx : bitsS x = true) (hy : bitsS y = true) : bitsS (x ++ y) = true := by
  unfold bitsS at *
  rw [tl_add, List.all_append, hx, hy]; rfl
section
variable {P : Program} {w : World} {K : PySem.W.Frag} {mg : Str → Option Value} {base : Heap} {a : Ad}
def spBitsG : Sp := fun vs H Q _ => ∃ (p : Addr) (n : Int), vs = [.ref p, .int n] ∧ StOk H p ∧ 0 ≤ n ∧ n ≤ 8 ∧ ∀ (z : Str) (H' : Hp), z.length = n.toNat → bitsS z = true → Went p H H' → Q (.str z) H'
theorem ok_bitsG (T : Txt K mg a) : FnOk P w K mg base CX0 2 a._law_bits.f a._law_bits.fd ["_law_state", "_law_many"] spBitsG := by
  have G__law_pull : FnOk P w K mg base CX0 1 a._law_pull.f a._law_pull.fd ["_law_state", "_law_many"] spPull := ok_pull T
  have sc : FnScope ["_law_state", "_law_many", "_law_text", "_law_k"] ["_law_state", "_law_many"] (defScope (top 34)) := ⟨rfl, rfl, rfl, by decide +kernel, rfl, by decide +kernel, by decide +kernel⟩
  refine T._law_bits.ok sc (fun vs H Q E h => ?_) (fun cdv A outer s H vs Q E hr h => ?_)
  · obtain ⟨p, n, rfl, _⟩ := h
    rfl
  · obtain ⟨p, n, rfl, S, hn0, hn1, k⟩ := h
    refine ⟨_, (pss_cons (ps_set (i := 2) sc.nd rfl (by first | exact Or.inl rfl | exact Or.inr rfl) pe_str)
      (pss_cons (ps_for PassesOwn.never rfl (pi_range1 rfl T.range (pa_cons (pv 1) pa_nil)) (pg_name (i := 3) sc.nd rfl (by first | exact Or.inl rfl | exact Or.inr rfl))
      (pss_one (ps_set (i := 2) sc.nd rfl (by first | exact Or.inl rfl | exact Or.inr rfl) (pe_op op_add_str (pv 2) (pe_ix ix_str pe_str (pe_call G__law_pull (hr.mono (by first | decide | omega)) rfl T._law_pull.mg T._law_pull.kp T._law_pull.b .nil pass0 (pa_cons (pv 0) (pa_cons pe_int pa_nil))) (fun _ _ => rfl))))))
      (pss_one (ps_ret (pv 2))))), ?_⟩
    walk_at "go"
    refine ⟨_, rfl, n, rfl, by omega, by omega, for_range (n := n.toNat) (fun i σ H' => ∃ (z : Str) (v : Option V), σ = [some (.ref p), some (.int n), some (.str z), v] ∧ z.length = i ∧ bitsS z = true ∧ Went p H H') ⟨"", _, rfl, rfl, rfl, Went.rfl' S⟩ ?_ ?_⟩
    · rintro i σ H2 hi ⟨z, v, rfl, hz, hzl, W2⟩
      walk_at "go"
      refine ⟨p, _, rfl, W2.1, by decide, by decide, fun r4 H4 q0 q1 W4 => ?_⟩
      have hl : (("01" : Str).cps.toList).length = 2 := by decide
      obtain ⟨c, hc, hmem⟩ := at_mem' (xs := ("01" : Str).cps.toList) q0 (by rw [hl]; omega)
      have hcb : bitB c = true := by
        have : ∀ c ∈ ("01" : Str).cps.toList, bitB c = true := by decide
        exact this c hmem
      refine ⟨_, r4, c, rfl, rfl, by decide, hc, ?_⟩
      refine ⟨_, _, rfl, rfl, Nat.le_trans (show z.length + 1 ≤ 10 by omega) (by decide), ?_⟩
      walk_at "go"
      refine ⟨z ++ ⟨#[c]⟩, _, rfl, ?_, bits_add hzl (by simp [bitsS, hcb]), W2.trans W4⟩
      rw [len_add]; show z.length + 1 = _; omega
    · rintro σ H2 ⟨z, v, rfl, hz, hzl, W2⟩
      walk_at "go"
      exact k z _ hz hzl W2
def spWordsG : Sp := fun vs H Q _ => ∃ (p : Addr) (n : Int), vs = [.ref p, .int n] ∧ StOk H p ∧ 1 ≤ n ∧ n ≤ 13 ∧ ∀ (D : Addr) (ws : List Str) (H' : Hp), H D = none → H' D = some (.lst (ws.map V.str)) → ws.length = n.toNat → (∀ z ∈ ws, WordS z) → Went p H H' → Q (.ref D) H'
theorem ok_wordsG (T : Txt K mg a) : FnOk P w K mg base CX0 2 a._law_words.f a._law_words.fd ["_law_state", "_law_many"] spWordsG := by
  have G__law_pull : FnOk P w K mg base CX0 1 a._law_pull.f a._law_pull.fd ["_law_state", "_law_many"] spPull := ok_pull T
  have sc : FnScope ["_law_state", "_law_many", "_law_leaves", "_law_k", "_law_short", "_law_leaf", "_law_words_here"] ["_law_state", "_law_many"] (defScope (top 35)) := ⟨rfl, rfl, rfl, by decide +kernel, rfl, by decide +kernel, by decide +kernel⟩
  refine T._law_words.ok sc (fun vs H Q E h => ?_) (fun cdv A outer s H vs Q E hr h => ?_)
  · obtain ⟨p, n, rfl, _⟩ := h
    rfl
  · obtain ⟨p, n, rfl, S, hn0, hn1, k⟩ := h
    refine ⟨_, (pss_cons (ps_set (i := 2) sc.nd rfl (by first | exact Or.inl rfl | exact Or.inr rfl) (pe_lst (pa_cons pe_str (pa_cons pe_str pa_nil))))
      (pss_cons (ps_for PassesOwn.never rfl (pi_range1 rfl T.range (pa_cons (pe_op op_add (pe_op op_sub (pv 1) pe_int) (pe_call G__law_pull (hr.mono (by first | decide | omega)) rfl T._law_pull.mg T._law_pull.kp T._law_pull.b .nil pass0 (pa_cons (pv 0) (pa_cons pe_int pa_nil)))) pa_nil)) (pg_name (i := 3) sc.nd rfl (by first | exact Or.inl rfl | exact Or.inr rfl))
      (pss_cons (ps_setLc (i := 4) (own := [("_law_leaf", 5)]) (g := gName 5) (by rfl) sc.nd rfl rfl (sw_true rfl rfl rfl (by decide +kernel)) (pi_list (pv 2)) (blkOk_by (own := [("_law_leaf", 5)]) (N := ["_law_state", "_law_many", "_law_leaves", "_law_k", "_law_short", "_law_leaf", "_law_words_here"]) (sc := defScope (top 35)) (by decide +kernel)) (fun _ _ _ _ _ => pg_name (i := 5) sc.nd rfl (Or.inl rfl)) (fun _ _ _ _ _ => (pts_one (pt_cmpR op_lt (pe_callB call_len_str (by rfl) T.len PySem.boot_len (pa_cons (pv 5) pa_nil)) pe_int (nomark _)))) (fun _ _ _ _ _ => (by exact (pv 5))))
      (pss_cons (ps_set (i := 5) sc.nd rfl (by first | exact Or.inl rfl | exact Or.inr rfl) (pe_ix ix_list (pv 4) (pe_call G__law_pull (hr.mono (by first | decide | omega)) rfl T._law_pull.mg T._law_pull.kp T._law_pull.b .nil pass0 (pa_cons (pv 0) (pa_cons (pe_callB call_len_seq (by rfl) T.len PySem.boot_len (pa_cons (pv 4) pa_nil)) pa_nil))) (fun _ _ => rfl)))
      (pss_cons (ps_expr (pe_bm PySem.F.plainAttrs_list PySem.F.slot_list_remove PySem.F.type_list_remove mt_removeS (pv 2) (pa_cons (pv 5) pa_nil)))
      (pss_one (ps_expr (pe_bm PySem.F.plainAttrs_list PySem.F.slot_list_extend PySem.F.type_list_extend mt_extend (pv 2) (pa_cons (pe_lst (pa_cons (pe_op op_add_str (pv 5) pe_str) (pa_cons (pe_op op_add_str (pv 5) pe_str) pa_nil))) pa_nil))))))))
      (pss_cons (ps_set (i := 6) sc.nd rfl (by first | exact Or.inl rfl | exact Or.inr rfl) (pe_lst pa_nil))
      (pss_cons (ps_for PassesOwn.never rfl (pi_range1 rfl T.range (pa_cons (pv 1) pa_nil)) (pg_name (i := 3) sc.nd rfl (by first | exact Or.inl rfl | exact Or.inr rfl))
      (pss_one (ps_expr (pe_bm PySem.F.plainAttrs_list PySem.F.slot_list_append PySem.F.type_list_append mt_append (pv 6) (pa_cons (pe_bm PySem.F.plainAttrs_list PySem.F.slot_list_pop PySem.F.type_list_pop mt_popAt (pv 2) (pa_cons (pe_call G__law_pull (hr.mono (by first | decide | omega)) rfl T._law_pull.mg T._law_pull.kp T._law_pull.b .nil pass0 (pa_cons (pv 0) (pa_cons (pe_callB call_len_seq (by rfl) T.len PySem.boot_len (pa_cons (pv 2) pa_nil)) pa_nil))) pa_nil)) pa_nil)))))
      (pss_one (ps_ret (pv 6))))))), ?_⟩
    walk_at "go"
    rename_i A nA
    have Ap : A ≠ p := S.ne nA
    have W0 : Went p H (upd H A (.lst [.str "0", .str "1"])) := (Went.rfl' S).new nA
    walk_at "go"
    refine ⟨.int n, rfl, n, 2, rfl, rfl, .ref p, rfl, p, 3, rfl, W0.1, by decide, by decide, fun r H1 r0 r1 W1 => ?_⟩
    have W01 := W0.trans W1
    have hA1 : H1 A = some (.lst [.str "0", .str "1"]) := W1.get Ap upd_same
    refine ⟨_, _, rfl, rfl, n - 2 + r, rfl, by omega, by omega, for_range (n := (n - 2 + r).toNat) (fun i σ H' => ∃ (ls : List Str) (v3 v4 v5 v6 : Option V), σ = [some (.ref p), some (.int n), some (.ref A), v3, v4, v5, v6] ∧ H' A = some (.lst (ls.map V.str)) ∧ (∀ z ∈ ls, WordS z) ∧ (ls.map wt).sum = 256 ∧ ls.length = 2 + i ∧ Went p H H')
      ⟨["0", "1"], _, _, _, _, rfl, hA1, ?_, rfl, rfl, W01⟩ ?_ ?_⟩
    · intro z hz
      simp only [List.mem_cons, List.not_mem_nil, or_false] at hz
      rcases hz with rfl | rfl
      · exact ⟨by decide, by decide, by decide⟩
      · exact ⟨by decide, by decide, by decide⟩
    · rintro i σ H2 hi ⟨ls, v3, v4, v5, v6, rfl, hA2, hw, hsum, hlen, W2⟩
      have hlen16 : ls.length ≤ 20 := by omega
      walk_at "go"
      refine ⟨.ref A, rfl, A, rfl, ⟨_, SqL.of hA2⟩, fun D nD => ?_⟩
      have Dp : D ≠ p := W2.1.ne nD
      have DA : A ≠ D := ne_of_none hA2 nD
      refine lc_list (xs := ls.map V.str) (fun i H' => H' = upd H2 D (.lst (((ls.take i).filter fun z => decide (z.length < 8)).map V.str))) rfl (fun i H3 _ e => by rw [e]; exact SqL.of (by rw [upd_ne DA]; exact hA2)) ?_ ?_
      · rintro j x H3 hx rfl
        rw [List.getElem?_map] at hx
        cases hu : ls[j]? with
        | none => rw [hu] at hx; cases hx
        | some u =>
          rw [hu] at hx
          cases hx
          have et := take_get hu
          refine ⟨rfl, ?_⟩
          walk_at "go"
          refine ⟨u, rfl, Nat.le_trans (hw u (List.mem_of_getElem? hu)).l8 (by decide), ?_⟩
          walk_at "go"
          have small : (((ls.take j).filter fun z => decide (z.length < 8)).map V.str).length < sizeLine := by
            rw [List.length_map]
            refine Nat.lt_of_le_of_lt (Nat.le_trans (List.length_filter_le _ _) (Nat.le_trans (List.length_take_le _ _) (by omega : j ≤ j))) ?_
            have := (List.getElem?_eq_some_iff.mp hu).1
            exact Nat.lt_of_lt_of_le (by omega : j < 21) (by decide)
          refine i_itd (fun q => ?_) (fun q => ?_)
          · have q' : u.length < 8 := by omega
            refine ⟨.str u, rfl, _, upd_same, small, ?_⟩
            rw [upd_upd, et, List.filter_append, List.map_append]
            simp [q']
          · have q' : ¬ u.length < 8 := by omega
            rw [et, List.filter_append]
            simp [q']
      · rintro H3 rfl
        rw [List.length_map, List.take_length]
        have hFne := some_short hw hsum (by omega)
        have hFm : ∀ u ∈ (ls.filter fun z => decide (z.length < 8)), u ∈ ls ∧ u.length < 8 := fun u hu => by
          have := List.mem_filter.mp hu
          exact ⟨this.1, of_decide_eq_true this.2⟩
        have hFl : (ls.filter fun z => decide (z.length < 8)).length ≤ 20 := Nat.le_trans (List.length_filter_le _ _) hlen16
        generalize (ls.filter fun z => decide (z.length < 8)) = F at hFne hFm hFl ⊢
        have W3 : Went p H (upd H2 D (.lst (F.map V.str))) := W2.new nD
        have hD3 : upd H2 D (.lst (F.map V.str)) D = some (.lst (F.map V.str)) := upd_same
        have hA3 : upd H2 D (.lst (F.map V.str)) A = some (.lst (ls.map V.str)) := by rw [upd_ne DA]; exact hA2
        generalize upd H2 D (.lst (F.map V.str)) = H3 at W3 hD3 hA3 ⊢
        have hF0 : 0 < F.length := List.length_pos_iff.mpr hFne
        walk_at "go"
        refine ⟨p, _, rfl, W3.1, by rw [List.length_map]; omega, by rw [List.length_map]; omega, fun r2 H4 q0 q1 W4 => ?_⟩
        walk_at "go"
        have hD4 := W4.get Dp hD3
        have hA4 := W4.get Ap hA3
        have W34 := W3.trans W4
        obtain ⟨v, hv, hm⟩ := at_mem' q0 q1
        obtain ⟨u, hu, rfl⟩ := List.mem_map.mp hm
        obtain ⟨hul, hu8⟩ := hFm u hu
        obtain ⟨j, hj, hno⟩ := first_at' hul
        refine i_ixl hD4 hv ?_
        walk_at "go"
        refine ⟨.ref A, rfl, .inl ⟨rfl, _, SqL.of hA4⟩, ?_⟩
        walk_at "go"
        refine ⟨A, ls, u, j, rfl, rfl, hA4, hj, hno, ?_⟩
        walk_at "go"
        refine ⟨.ref A, rfl, .inl ⟨rfl, _, SqL.of upd_same⟩, ?_⟩
        walk_at "go"
        refine ⟨u, "0", rfl, rfl, Nat.le_trans (show u.length + 1 ≤ 10 by omega) (by decide), ?_⟩
        walk_at "go"
        refine ⟨u, "1", rfl, rfl, Nat.le_trans (show u.length + 1 ≤ 10 by omega) (by decide), ?_⟩
        walk_at "go"
        rename_i B nB
        have AB : A ≠ B := ne_of_none upd_same nB
        have lene : (ls.eraseIdx j).length = ls.length - 1 := by
          rw [List.length_eraseIdx, if_pos (List.getElem?_eq_some_iff.mp hj).1]
        refine ⟨A, B, (ls.eraseIdx j).map V.str, [.str (u ++ "0"), .str (u ++ "1")], rfl, rfl, by rw [upd_ne AB, upd_same], upd_same, ?_, ?_⟩
        · rw [List.length_map, lene]
          exact Nat.le_trans (show ls.length - 1 + 2 ≤ 30 by omega) (by decide)
        · have wu := hw u hul
          refine ⟨ls.eraseIdx j ++ [u ++ "0", u ++ "1"], _, _, _, _, rfl, by rw [upd_same, List.map_append]; rfl, ?_, ?_, ?_, ?_⟩
          · intro z hz
            rcases List.mem_append.mp hz with h | h
            · exact hw z (List.mem_of_mem_eraseIdx h)
            · simp only [List.mem_cons, List.not_mem_nil, or_false] at h
              rcases h with rfl | rfl
              · exact ⟨by rw [len_add]; show 1 ≤ u.length + 1; omega, by rw [len_add]; show u.length + 1 ≤ 8; omega, bits_add wu.b (by decide)⟩
              · exact ⟨by rw [len_add]; show 1 ≤ u.length + 1; omega, by rw [len_add]; show u.length + 1 ≤ 8; omega, bits_add wu.b (by decide)⟩
          · have e1 := sum_erase wt hj
            rw [hsum] at e1
            rw [List.map_append, List.sum_append]
            have e2 : wt (u ++ "0") = 2 ^ (7 - u.length) := by
              unfold wt; rw [len_add]; show 2 ^ (8 - (u.length + 1)) = _; congr 1; omega
            have e3 : wt (u ++ "1") = 2 ^ (7 - u.length) := by
              unfold wt; rw [len_add]; show 2 ^ (8 - (u.length + 1)) = _; congr 1; omega
            have e4 : wt u = 2 * 2 ^ (7 - u.length) := by
              unfold wt
              have : 8 - u.length = (7 - u.length) + 1 := by omega
              rw [this, Nat.pow_succ]; omega
            simp only [List.map_cons, List.map_nil, List.sum_cons, List.sum_nil, e2, e3]
            omega
          · rw [List.length_append, lene]; show ls.length - 1 + 2 = _; omega
          · have nA' : H A = none := nA
            exact Went.wr S (Went.new (Went.wr S W34 nA' Ap) nB) nA' Ap
    · rintro σ H2 ⟨ls, v3, v4, v5, v6, rfl, hA2, hw, hsum, hlen, W2⟩
      clear hsum
      have hlen2 : n.toNat ≤ ls.length := by omega
      have hlen16 : ls.length ≤ 20 := by omega
      walk_at "go"
      rename_i B nB
      have Bp : B ≠ p := W2.1.ne nB
      have AB : A ≠ B := ne_of_none hA2 nB
      have nB0 : H B = none := W2.none nB Bp
      refine ⟨.int n, rfl, n, rfl, by omega, by omega, for_range (n := n.toNat) (fun i σ H' => ∃ (ls' ws : List Str) (v3 v4 v5 : Option V), σ = [some (.ref p), some (.int n), some (.ref A), v3, v4, v5, some (.ref B)] ∧ H' A = some (.lst (ls'.map V.str)) ∧ H' B = some (.lst (ws.map V.str)) ∧ (∀ z ∈ ls', WordS z) ∧ (∀ z ∈ ws, WordS z) ∧ ws.length = i ∧ ls'.length + i = ls.length ∧ Went p H H')
        ⟨ls, [], _, _, _, rfl, by rw [upd_ne AB]; exact hA2, upd_same, hw, by simp, rfl, rfl, W2.new nB⟩ ?_ ?_⟩
      · rintro i σ H3 hi ⟨ls', ws, v3, v4, v5, rfl, hA3, hB3, hw1, hw2, hl1, hl2, W3⟩
        walk_at "go"
        refine ⟨.ref B, rfl, .inl ⟨rfl, _, SqL.of hB3⟩, ?_⟩
        walk_at "go"
        refine ⟨.ref A, rfl, .inl ⟨rfl, _, SqL.of hA3⟩, ?_⟩
        walk_at "go"
        refine ⟨p, _, rfl, W3.1, by rw [List.length_map]; omega, by rw [List.length_map]; omega, fun r2 H4 q0 q1 W4 => ?_⟩
        have hA4 := W4.get Ap hA3
        have hB4 := W4.get Bp hB3
        obtain ⟨j, rfl⟩ := Int.eq_ofNat_of_zero_le q0
        have hj : j < ls'.length := by rw [List.length_map] at q1; omega
        walk_at "go"
        refine ⟨A, _, _, j, .str ls'[j], rfl, rfl, hA4, by omega, by omega, ?_, by rw [List.getElem?_map, List.getElem?_eq_getElem hj]; rfl, ?_⟩
        · rw [List.length_map]
          exact (ixN_seq (by unfold ixN; rw [if_pos (by omega), if_pos (by omega)]; simp)).1
        walk_at "go"
        refine ⟨B, _, _, rfl, rfl, by rw [upd_ne AB.symm]; exact hB4, by rw [List.length_map]; exact Nat.lt_of_le_of_lt (by omega : ws.length ≤ 20) (by decide), ?_⟩
        refine ⟨ls'.eraseIdx j, ws ++ [ls'[j]], _, _, _, rfl, ?_, by rw [upd_same, List.map_append]; rfl, fun z hz => hw1 z (List.mem_of_mem_eraseIdx hz), ?_, by rw [List.length_append, hl1]; rfl, ?_, ?_⟩
        · rw [upd_ne AB, upd_same, erase_mapS]
        · intro z hz
          rcases List.mem_append.mp hz with h | h
          · exact hw2 z h
          · rw [List.mem_singleton.mp h]; exact hw1 _ (List.getElem_mem hj)
        · rw [List.length_eraseIdx, if_pos hj]; omega
        · exact Went.wr S (Went.wr S (W3.trans W4) nA Ap) nB0 Bp
      · rintro σ H3 ⟨ls', ws, v3, v4, v5, rfl, hA3, hB3, hw1, hw2, hl1, hl2, W3⟩
        walk_at "go"
        exact k B ws H3 nB0 hB3 hl1 hw2 W3
end
end Me
set_option maxHeartbeats 8000000
namespace Me
open PySem L2


/-- the kind inside, by number -/
def KindIs (a : Ad) (H : Hp) (y : V) (c : Nat) : Prop := match c with
  | 0 => y = .non
  | 1 => ∃ p dx, y = .ref p ∧ H p = some (.ins (a.C 0) dx [])
  | 2 => ∃ p dx, y = .ref p ∧ H p = some (.ins (a.C 2) dx [("many", .int 1)])
  | 3 => ∃ p dx, y = .ref p ∧ H p = some (.ins (a.C 2) dx [("many", .int 2)])
  | _ => ∃ p dx, y = .ref p ∧ H p = some (.ins (a.C 1) dx [("low", .int 0), ("high", .int 6), ("width", .non)])
theorem KindIs.soft {a : Ad} {H H' : Hp} {y : V} {c : Nat} (h : KindIs a H y c) (s : Soft H H') : KindIs a H' y c := by
  match c, h with
  | 0, h => exact h
  | 1, h => obtain ⟨p, dx, e, h⟩ := h; exact ⟨p, dx, e, s.ins h fun _ z => by cases z⟩
  | 2, h => obtain ⟨p, dx, e, h⟩ := h; exact ⟨p, dx, e, s.ins h fun _ z => by cases z⟩
  | 3, h => obtain ⟨p, dx, e, h⟩ := h; exact ⟨p, dx, e, s.ins h fun _ z => by cases z⟩
  | (n + 4), h => obtain ⟨p, dx, e, h⟩ := h; exact ⟨p, dx, e, s.ins h fun _ z => by cases z⟩
theorem KindIs.keq {a : Ad} {H : Hp} {y z : V} {c : Nat} (h : KindIs a H y c) (h' : KindIs a H z c) : KEq a y z H := by
  match c, h, h' with
  | 0, h, h' => exact .inl ⟨h, h'⟩
  | 1, ⟨p, dx, e, h⟩, ⟨q, dy, e', h'⟩ => exact .inr (.inl ⟨p, q, dx, dy, _, _, e, e', h, h', dy, h'⟩)
  | 2, ⟨p, dx, e, h⟩, ⟨q, dy, e', h'⟩ => exact .inr (.inr (.inl (.inr (.inl ⟨p, q, dx, dy, _, _, e, e', h, h', dx, dy, _, h, h', rfl⟩))))
  | 3, ⟨p, dx, e, h⟩, ⟨q, dy, e', h'⟩ => exact .inr (.inr (.inl (.inr (.inl ⟨p, q, dx, dy, _, _, e, e', h, h', dx, dy, _, h, h', rfl⟩))))
  | (n + 4), ⟨p, dx, e, h⟩, ⟨q, dy, e', h'⟩ => exact .inr (.inr (.inl (.inl ⟨p, q, dx, dy, _, _, e, e', h, h', dx, dy, _, _, _, h, h', rfl, rfl, rfl⟩)))
/-- a way, door, part or room, with what it holds -/
def KAt (a : Ad) (H : Hp) (e : El) (c : Nat) : Prop := ∃ p i dx y, e.v = .ref p ∧ (i = 5 ∨ i = 6 ∨ i = 7 ∨ i = 8) ∧ e.k = some i ∧ H p = some (.ins (a.C i) dx (ElFs e y)) ∧ KindIs a H y c
theorem KAt.soft {a : Ad} {H H' : Hp} {e : El} {c : Nat} (h : KAt a H e c) (s : Soft H H') : KAt a H' e c := by
  obtain ⟨p, i, dx, y, e1, e2, e3, e4, e5⟩ := h
  exact ⟨p, i, dx, y, e1, e2, e3, s.ins e4 (fun _ z => by cases z), e5.soft s⟩
theorem KAt.el {a : Ad} {H : Hp} {e : El} {c : Nat} (h : KAt a H e c) : ElAt a H e := by
  obtain ⟨p, i, dx, y, e1, e2, e3, e4, e5⟩ := h
  have hi : i < 11 := by omega
  refine ⟨by rw [e1, e3]; exact .ins hi e4, fun _ => ⟨p, i, dx, y, e1, hi, e3, e4⟩⟩
theorem KAt.eq {a : Ad} {H : Hp} {e f : El} {c : Nat} (h : KAt a H e c) (h' : KAt a H f c) (hk : e.k = f.k) (hn : e.n = f.n) (hw : e.w = f.w) : DMade a e.v f.v H := by
  obtain ⟨p, i, dx, y, e1, e2, e3, e4, e5⟩ := h
  obtain ⟨q, j, dy, z, f1, f2, f3, f4, f5⟩ := h'
  have ij : i = j := by rw [e3, f3] at hk; exact Option.some.inj hk
  subst ij
  have kq := e5.keq f5
  unfold ElFs at e4 f4
  rw [e3] at e4
  rw [f3] at f4
  rw [← hn, ← hw] at f4
  rcases e2 with rfl | rfl | rfl | rfl
  · exact .inl ⟨p, q, dx, dy, _, _, e1, f1, e4, f4, dx, dy, _, _, _, _, e4, f4, rfl, rfl, kq⟩
  · exact .inr (.inl ⟨p, q, dx, dy, _, _, e1, f1, e4, f4, dx, dy, _, _, _, _, e4, f4, rfl, rfl, kq⟩)
  · exact .inr (.inr (.inl ⟨p, q, dx, dy, _, _, e1, f1, e4, f4, dx, dy, _, _, _, e4, f4, rfl, kq⟩))
  · exact .inr (.inr (.inr ⟨p, q, dx, dy, _, _, e1, f1, e4, f4, dx, dy, _, _, _, _, e4, f4, rfl, rfl, kq⟩))
def objK (turn : Int) : Option Nat := if turn = 0 then some 1 else if turn = 1 then some 2 else if turn = 2 then some 3 else if turn = 3 then some 4 else if turn = 4 then some 0 else if turn = 5 then none else if turn = 6 then some 9 else if turn = 7 then some 10 else if turn = 8 then some 7 else if turn = 9 then some 8 else some 6
/-- what the law's object is -/
structure ObjE (a : Ad) (H : Hp) (turn : Int) (e : El) : Prop where
  at_ : ElAt a H e
  k : e.k = objK turn
  w : e.w = "0"
  n : e.n = "a"
  c8 : turn = 8 → KAt a H e 2
  c9 : turn = 9 → KAt a H e 0
  c10 : turn = 10 → KAt a H e 0
section
variable {P : Program} {w : World} {K : PySem.W.Frag} {mg : Str → Option Value} {base : Heap} {a : Ad}
def spObj (a : Ad) : Sp := fun vs H Q _ => ∃ turn : Int, vs = [.int turn] ∧ 0 ≤ turn ∧ turn ≤ 10 ∧ ∀ (e : El) H', Same H H' → ObjE a H' turn e → Q e.v H'
theorem chk_0a : chkBad (.str "0") (.str "a") = none := by decide +kernel
theorem ok_obj (T : Txt K mg a) : FnOk P w K mg base CX0 6 a._law_object.f a._law_object.fd ["_law_turn"] (spObj a) := by
  have GI1 : FnOk P w K mg base (L2.CX P w) 3 (a.I 1).f (a.I 1).fd ["self", "low", "high", "width"] (spNum a) := ok_num T
  have GI2 : FnOk P w K mg base (L2.CX P w) 3 (a.I 2).f (a.I 2).fd ["self", "many"] (spBit a) := ok_bit T
  have GI3 : FnOk P w K mg base (L2.CX P w) 3 (a.I 3).f (a.I 3).fd ["self", "name"] (spCal a) := ok_cal T
  have GI4 : FnOk P w K mg base (L2.CX P w) 3 (a.I 4).f (a.I 4).fd ["self", "item", "width"] (spItm a) := ok_itm T
  have GI5 : FnOk P w K mg base (L2.CX P w) 4 (a.I 5).f (a.I 5).fd ["self", "word", "name", "kind"] (spWay a) := ok_Way T
  have GI6 : FnOk P w K mg base (L2.CX P w) 4 (a.I 6).f (a.I 6).fd ["self", "word", "name", "kind"] (spDoor a) := ok_Door T
  have GI7 : FnOk P w K mg base (L2.CX P w) 4 (a.I 7).f (a.I 7).fd ["self", "name", "kind"] (spPart a) := ok_Part T
  have GI8 : FnOk P w K mg base (L2.CX P w) 4 (a.I 8).f (a.I 8).fd ["self", "word", "name", "kind"] (spRoom a) := ok_Room T
  have GI9 : FnOk P w K mg base (L2.CX P w) 3 (a.I 9).f (a.I 9).fd ["self", "ways"] (spChoiceG a) := ok_ChoiceG T
  have GI10 : FnOk P w K mg base (L2.CX P w) 3 (a.I 10).f (a.I 10).fd ["self", "parts"] (spRowG a) := ok_RowG T
  have sc : FnScope ["_law_turn"] ["_law_turn"] (defScope (top 37)) := ⟨rfl, rfl, rfl, by decide +kernel, rfl, by decide +kernel, by decide +kernel⟩
  refine T._law_object.ok sc (fun vs H Q E h => ?_) (fun cdv A outer s H vs Q E hr h => ?_)
  · obtain ⟨turn, rfl, _⟩ := h
    rfl
  · obtain ⟨turn, rfl, h0, h10, k⟩ := h
    have s0 : Sh (.str "0") := fun z e => by injection e with e; rw [← e]; decide
    have sa : Sh (.str "a") := fun z e => by injection e with e; rw [← e]; decide
    have oth : ∀ v i H', turn ≠ 8 → turn ≠ 9 → turn ≠ 10 → objK turn = i → Itm a H' v i → isK i [5, 6, 7, 8] = false → Same H H' → Q v H' := fun v i H' n8 n9 n10 ek it nk s =>
      k ⟨v, i, "0", "a"⟩ H' s ⟨⟨it, fun z => by rw [show (El.k ⟨v, i, "0", "a"⟩) = i from rfl, nk] at z; cases z⟩, ek.symm, rfl, rfl, fun z => absurd z n8, fun z => absurd z n9, fun z => absurd z n10⟩
    have kat : ∀ p i H' c, turn = (match i with | 7 => 8 | 8 => 9 | _ => 10) → (i = 6 ∨ i = 7 ∨ i = 8) → c = (match i with | 7 => 2 | _ => 0) → KAt a H' ⟨.ref p, some i, "0", "a"⟩ c → Same H H' → Q (.ref p) H' := fun p i H' c ht hi hc hk s => by
      refine k ⟨.ref p, some i, "0", "a"⟩ H' s ⟨hk.el, ?_, rfl, rfl, fun z => ?_, fun z => ?_, fun z => ?_⟩
      · rcases hi with rfl | rfl | rfl <;> rw [ht] <;> rfl
      · rcases hi with rfl | rfl | rfl <;> first | (rw [ht] at z; exact absurd z (by decide)) | (rw [hc] at hk; exact hk)
      · rcases hi with rfl | rfl | rfl <;> first | (rw [ht] at z; exact absurd z (by decide)) | (rw [hc] at hk; exact hk)
      · rcases hi with rfl | rfl | rfl <;> first | (rw [ht] at z; exact absurd z (by decide)) | (rw [hc] at hk; exact hk)
    refine ⟨_, (pss_cons (ps_if (pt_cmpR op_eq (pv 0) pe_int (nomark _))
      (pss_one (ps_ret (pe_make T.mk1 GI1 (hr.mono (by decide)) rfl (T.kc 1 (by decide)).gl T.Id1 (.cons (show RelV V.non Value.none from rfl) .nil) passF (pa_cons (pe_un un_neg pe_int) (pa_cons pe_int pa_nil)))))
      pss_nil)
      (pss_cons (ps_if (pt_cmpR op_eq (pv 0) pe_int (nomark _))
      (pss_one (ps_ret (pe_make T.mk2 GI2 (hr.mono (by decide)) rfl (T.kc 2 (by decide)).gl T.Ib2 .nil passF (pa_cons pe_int pa_nil))))
      pss_nil)
      (pss_cons (ps_if (pt_cmpR op_eq (pv 0) pe_int (nomark _))
      (pss_one (ps_ret (pe_make T.mk3 GI3 (hr.mono (by decide)) rfl (T.kc 3 (by decide)).gl T.Ib3 .nil passF (pa_cons pe_str pa_nil))))
      pss_nil)
      (pss_cons (ps_if (pt_cmpR op_eq (pv 0) pe_int (nomark _))
      (pss_one (ps_ret (pe_make T.mk4 GI4 (hr.mono (by decide)) rfl (T.kc 4 (by decide)).gl T.Ib4 .nil passF (pa_cons (pe_make T.mk2 GI2 (hr.mono (by decide)) rfl (T.kc 2 (by decide)).gl T.Ib2 .nil passF (pa_cons pe_int pa_nil)) (pa_cons pe_int pa_nil)))))
      pss_nil)
      (pss_cons (ps_if (pt_cmpR op_eq (pv 0) pe_int (nomark _))
      (pss_one (ps_ret (pe_mk0 (T.kc 0 (by decide)).mks T.ini0 (T.kc 0 (by decide)).kp (T.kc 0 (by decide)).gl)))
      pss_nil)
      (pss_cons (ps_if (pt_cmpR op_eq (pv 0) pe_int (nomark _))
      (pss_one (ps_ret pe_non))
      pss_nil)
      (pss_cons (ps_if (pt_cmpR op_eq (pv 0) pe_int (nomark _))
      (pss_one (ps_ret (pe_make T.mk9 GI9 (hr.mono (by decide)) rfl (T.kc 9 (by decide)).gl T.Ib9 .nil passF (pa_cons (pe_lst (pa_cons (pe_make T.mk5 GI5 (hr.mono (by decide)) rfl (T.kc 5 (by decide)).gl T.Ib5 .nil passF (pa_cons pe_str (pa_cons pe_str (pa_cons (pe_mk0 (T.kc 0 (by decide)).mks T.ini0 (T.kc 0 (by decide)).kp (T.kc 0 (by decide)).gl) pa_nil)))) pa_nil)) pa_nil))))
      pss_nil)
      (pss_cons (ps_if (pt_cmpR op_eq (pv 0) pe_int (nomark _))
      (pss_one (ps_ret (pe_make T.mk10 GI10 (hr.mono (by decide)) rfl (T.kc 10 (by decide)).gl T.Ib10 .nil passF (pa_cons (pe_lst (pa_cons (pe_make T.mk7 GI7 (hr.mono (by decide)) rfl (T.kc 7 (by decide)).gl T.Ib7 .nil passF (pa_cons pe_str (pa_cons (pe_make T.mk2 GI2 (hr.mono (by decide)) rfl (T.kc 2 (by decide)).gl T.Ib2 .nil passF (pa_cons pe_int pa_nil)) pa_nil))) pa_nil)) pa_nil))))
      pss_nil)
      (pss_cons (ps_if (pt_cmpR op_eq (pv 0) pe_int (nomark _))
      (pss_one (ps_ret (pe_make T.mk7 GI7 (hr.mono (by decide)) rfl (T.kc 7 (by decide)).gl T.Ib7 .nil passF (pa_cons pe_str (pa_cons (pe_make T.mk2 GI2 (hr.mono (by decide)) rfl (T.kc 2 (by decide)).gl T.Ib2 .nil passF (pa_cons pe_int pa_nil)) pa_nil)))))
      pss_nil)
      (pss_cons (ps_if (pt_cmpR op_eq (pv 0) pe_int (nomark _))
      (pss_one (ps_ret (pe_make T.mk8 GI8 (hr.mono (by decide)) rfl (T.kc 8 (by decide)).gl T.Ib8 .nil passF (pa_cons pe_str (pa_cons pe_str (pa_cons pe_non pa_nil))))))
      pss_nil)
      (pss_one (ps_ret (pe_make T.mk6 GI6 (hr.mono (by decide)) rfl (T.kc 6 (by decide)).gl T.Ib6 .nil passF (pa_cons pe_str (pa_cons pe_str (pa_cons pe_non pa_nil)))))))))))))))), ?_⟩
    walk_at "go"
    refine i_itei (fun e => ?_) (fun n0 => ?_)
    · walk_at "go"
      refine i_make ?_
      walk_at "go"
      intro x dx nx ndx ne
      refine ⟨x, dx, _, _, _, rfl, upd_same, .int _, .int _, .non, fun e1 H1 kp hx => ⟨rfl, ?_⟩, fun z e' => by cases e'⟩
      exact oth _ (some 1) _ (by omega) (by omega) (by omega) (by rw [e]; rfl) (.ins (by decide) hx) rfl (kp.same nx ndx)
    walk_at "go"
    refine i_itei (fun e => ?_) (fun n1 => ?_)
    · walk_at "go"
      refine i_make ?_
      walk_at "go"
      intro x dx nx ndx ne
      refine ⟨x, dx, _, rfl, upd_same, .int _, fun e1 H1 kp hx => ⟨rfl, ?_⟩, fun z e' => by cases e'⟩
      exact oth _ (some 2) _ (by omega) (by omega) (by omega) (by rw [e]; rfl) (.ins (by decide) hx) rfl (kp.same nx ndx)
    walk_at "go"
    refine i_itei (fun e => ?_) (fun n2 => ?_)
    · walk_at "go"
      refine i_make ?_
      walk_at "go"
      intro x dx nx ndx ne
      refine ⟨x, dx, _, rfl, upd_same, .str _, (fun z e => by injection e with e; rw [← e]; decide), fun e1 H1 kp hx => ⟨rfl, ?_⟩, fun z e' => by
        have : callBad (.str "ab") = none := by decide +kernel
        rw [this] at e'; cases e'⟩
      exact oth _ (some 3) _ (by omega) (by omega) (by omega) (by rw [e]; rfl) (.ins (by decide) hx) rfl (kp.same nx ndx)
    walk_at "go"
    refine i_itei (fun e => ?_) (fun n3 => ?_)
    · walk_at "go"
      refine i_make ?_
      walk_at "go"
      refine i_make ?_
      walk_at "go"
      intro x dx nx ndx ne
      refine ⟨x, dx, _, rfl, upd_same, .int _, fun e1 H1 kp hx => ⟨rfl, ?_⟩, fun z e' => by cases e'⟩
      have s1 := kp.same nx ndx
      walk_at "go"
      intro x2 dx2 nx2 ndx2 ne2
      refine ⟨x2, dx2, _, _, _, rfl, upd_same, .ins (by decide) (same2 nx2 ndx2 _ _ hx), .int _, fun e1 H2 kp2 hx2 => ⟨rfl, ?_⟩, fun z e' => by cases e'⟩
      exact oth _ (some 4) _ (by omega) (by omega) (by omega) (by rw [e]; rfl) (.ins (by decide) hx2) rfl (s1.trans (kp2.same nx2 ndx2))
    walk_at "go"
    refine i_itei (fun e => ?_) (fun n4 => ?_)
    · walk_at "go"
      intro x dx nx ndx ne
      exact oth _ (some 0) _ (by omega) (by omega) (by omega) (by rw [e]; rfl) (.ins (by decide) upd_same) rfl (same2 nx ndx)
    walk_at "go"
    refine i_itei (fun e => ?_) (fun n5 => ?_)
    · walk_at "go"
      exact oth _ none _ (by omega) (by omega) (by omega) (by rw [e]; rfl) (.th .non) rfl same_rfl
    walk_at "go"
    refine i_itei (fun e => ?_) (fun n6 => ?_)
    · walk_at "go"
      refine i_make ?_
      walk_at "go"
      refine i_make ?_
      walk_at "go"
      intro x dx nx ndx ne
      have s1 := same2 (o := .own x) (o' := .ins (a.C 0) dx []) nx ndx
      have hx := upd_same (H := upd H dx (.own x)) (a := x) (o := .ins (a.C 0) dx [])
      generalize upd (upd H dx (.own x)) x (.ins (a.C 0) dx []) = H1 at s1 hx ⊢
      walk_at "go"
      intro x2 dx2 nx2 ndx2 ne2
      refine ⟨x2, dx2, _, _, _, _, rfl, upd_same, .str _, s0, .str _, sa, .ins (i := 0) (by decide) (same2 nx2 ndx2 _ _ hx), fun e1 H2 kp2 hx2 => ⟨rfl, ?_⟩, fun z e' => by
        have : wayBad (.str "0") (.str "a") (some 0) = none := by decide +kernel
        rw [this] at e'; cases e'⟩
      have s2 := s1.trans (kp2.same nx2 ndx2)
      walk_at "go"
      rename_i L nL
      have s3 := same_new (o := .lst [.ref x2]) s2 nL
      have hx3 := same_new (o := .lst [.ref x2]) same_rfl nL _ _ hx2
      intro x4 dx4 nx4 ndx4 ne4
      have s4 := same2 (o := .own x4) (o' := .ins (a.C 9) dx4 []) nx4 ndx4
      have el5 : ElAt a _ ⟨.ref x2, some 5, "0", "a"⟩ := ⟨.ins (by decide) (s4 _ _ hx3), fun _ => ⟨x2, 5, dx2, _, rfl, by decide, rfl, s4 _ _ hx3⟩⟩
      refine ⟨x4, dx4, _, some [⟨.ref x2, some 5, "0", "a"⟩], rfl, upd_same, .seq (.inl (s4 _ _ upd_same)) (by show 1 ≤ 100; omega) (fun e me => by rw [List.mem_singleton.mp me]; exact el5), fun es he _ H5 t kp5 hx5 ht5 => ⟨rfl, ?_⟩, fun no => ?_⟩
      · exact oth _ (some 9) _ (by omega) (by omega) (by omega) (by rw [e]; rfl) (.ins (by decide) hx5) rfl (s3.trans (kp5.same nx4 ndx4))
      · refine absurd ⟨_, rfl, ⟨Nat.le_refl 1, (by show 1 ≤ 12; omega)⟩, fun e me => by rw [List.mem_singleton.mp me]; rfl, ⟨_, List.mem_singleton.mpr rfl, rfl⟩, by simp, by simp [Apart]⟩ no
    walk_at "go"
    refine i_itei (fun e => ?_) (fun n7 => ?_)
    · walk_at "go"
      refine i_make ?_
      walk_at "go"
      refine i_make ?_
      walk_at "go"
      refine i_make ?_
      walk_at "go"
      intro x dx nx ndx ne
      refine ⟨x, dx, _, rfl, upd_same, .int _, fun e1 H1 kp hx => ⟨rfl, ?_⟩, fun z e' => by cases e'⟩
      have s1 := kp.same nx ndx
      walk_at "go"
      intro x2 dx2 nx2 ndx2 ne2
      refine ⟨x2, dx2, _, _, _, rfl, upd_same, .str _, sa, .ins (i := 2) (by decide) (same2 nx2 ndx2 _ _ hx), fun e1 H2 kp2 hx2 => ⟨rfl, ?_⟩, fun z e' => by
        have : partBad (.str "a") (some 2) = none := by decide +kernel
        rw [this] at e'; cases e'⟩
      have s2 := s1.trans (kp2.same nx2 ndx2)
      walk_at "go"
      rename_i L nL
      have s3 := same_new (o := .lst [.ref x2]) s2 nL
      have hx3 := same_new (o := .lst [.ref x2]) same_rfl nL _ _ hx2
      intro x4 dx4 nx4 ndx4 ne4
      have s4 := same2 (o := .own x4) (o' := .ins (a.C 10) dx4 []) nx4 ndx4
      have el5 : ElAt a _ ⟨.ref x2, some 7, "0", "a"⟩ := ⟨.ins (by decide) (s4 _ _ hx3), fun _ => ⟨x2, 7, dx2, _, rfl, by decide, rfl, s4 _ _ hx3⟩⟩
      refine ⟨x4, dx4, _, some [⟨.ref x2, some 7, "0", "a"⟩], rfl, upd_same, .seq (.inl (s4 _ _ upd_same)) (by show 1 ≤ 100; omega) (fun e me => by rw [List.mem_singleton.mp me]; exact el5), fun es he _ H5 t kp5 hx5 ht5 => ⟨rfl, ?_⟩, fun no => ?_⟩
      · exact oth _ (some 10) _ (by omega) (by omega) (by omega) (by rw [e]; rfl) (.ins (by decide) hx5) rfl (s3.trans (kp5.same nx4 ndx4))
      · refine absurd ⟨_, rfl, ⟨Nat.le_refl 1, (by show 1 ≤ 8; omega)⟩, fun e me => by rw [List.mem_singleton.mp me]; rfl, ⟨_, rfl, rfl⟩, by simp⟩ no
    walk_at "go"
    refine i_itei (fun e => ?_) (fun n8 => ?_)
    · walk_at "go"
      refine i_make ?_
      walk_at "go"
      refine i_make ?_
      walk_at "go"
      intro x dx nx ndx ne
      refine ⟨x, dx, _, rfl, upd_same, .int _, fun e1 H1 kp hx => ⟨rfl, ?_⟩, fun z e' => by cases e'⟩
      have s1 := kp.same nx ndx
      walk_at "go"
      intro x2 dx2 nx2 ndx2 ne2
      refine ⟨x2, dx2, _, _, _, rfl, upd_same, .str _, sa, .ins (i := 2) (by decide) (same2 nx2 ndx2 _ _ hx), fun e1 H2 kp2 hx2 => ⟨rfl, ?_⟩, fun z e' => by
        have : partBad (.str "a") (some 2) = none := by decide +kernel
        rw [this] at e'; cases e'⟩
      exact kat _ 7 _ 2 e (.inr (.inl rfl)) rfl ⟨x2, 7, dx2, _, rfl, .inr (.inr (.inl rfl)), rfl, hx2, x, dx, rfl, kp2.same nx2 ndx2 _ _ hx⟩ (s1.trans (kp2.same nx2 ndx2))
    walk_at "go"
    refine i_itei (fun e => ?_) (fun n9 => ?_)
    · walk_at "go"
      refine i_make ?_
      walk_at "go"
      intro x2 dx2 nx2 ndx2 ne2
      refine ⟨x2, dx2, _, _, _, _, rfl, upd_same, .str _, s0, .str _, sa, .th .non, fun e1 H2 kp2 hx2 => ⟨rfl, ?_⟩, fun z e' => by
        have : roomBad (.str "0") (.str "a") .non none = none := by unfold roomBad; rw [chk_0a]; rfl
        rw [this] at e'; cases e'⟩
      exact kat _ 8 _ 0 e (.inr (.inr rfl)) rfl ⟨x2, 8, dx2, _, rfl, .inr (.inr (.inr rfl)), rfl, hx2, rfl⟩ (kp2.same nx2 ndx2)
    · walk_at "go"
      refine i_make ?_
      walk_at "go"
      intro x2 dx2 nx2 ndx2 ne2
      refine ⟨x2, dx2, _, _, _, _, rfl, upd_same, .str _, s0, .str _, sa, .th .non, fun e1 H2 kp2 hx2 => ⟨rfl, ?_⟩, fun z e' => by
        have : doorBad (.str "0") (.str "a") .non none = none := by unfold doorBad; rw [chk_0a]; rfl
        rw [this] at e'; cases e'⟩
      exact kat _ 6 _ 0 (by show turn = 10; omega) (.inl rfl) rfl ⟨x2, 6, dx2, _, rfl, .inr (.inl rfl), rfl, hx2, rfl⟩ (kp2.same nx2 ndx2)
end
end Me
set_option maxHeartbeats 8000000
namespace Me
open PySem L2


/-- a row of the law's list -/
structure Ent where
  t : Nat
  w : Str
  n : Str
  turn : Int
  x : V
def entL (e : Ent) : List V := if e.t = 2 then [.int 2, .str e.w, .str e.n, .int e.turn] else if e.t = 3 then [.int 3, .str e.w, .str e.n, e.x] else [.int e.t, .str e.w, .str e.n]
structure EntOk (H : Hp) (e : Ent) : Prop where
  t3 : e.t ≤ 3
  plain : e.t ≤ 1 → WordS e.w ∧ nameS e.n = true
  two : e.t = 2 → 0 ≤ e.turn ∧ e.turn ≤ 10 ∧ e.w = "0" ∧ e.n = "a"
  three : e.t = 3 → Th H e.x ∧ e.w = "0" ∧ e.n = "a"
theorem EntOk.soft {H H' : Hp} {e : Ent} (h : EntOk H e) (s : Soft H H') : EntOk H' e := ⟨h.t3, h.plain, h.two, fun q => ⟨(h.three q).1.soft s, (h.three q).2⟩⟩
def oneK (rows : Bool) (e : Ent) : Option Nat := if e.t = 2 then objK e.turn else if e.t = 3 then none else if rows = true then (if e.t = 0 then some 7 else some 8) else (if e.t = 0 then some 5 else some 6)
def oneC (rows : Bool) (e : Ent) : Nat := if e.t = 2 then (if e.turn = 8 then 2 else 0) else if rows = true then (if e.t = 0 then 3 else 0) else (if e.t = 0 then 1 else 4)
def plainT (rows : Bool) (e : Ent) : Nat := if e.t ≠ 2 then e.t else if rows = true ∧ e.turn = 8 then 0 else if rows = true ∧ e.turn = 9 then 1 else if rows = false ∧ e.turn = 10 then 1 else 3
/-- what comes of a row -/
structure OneE (a : Ad) (H : Hp) (rows : Bool) (e : Ent) (el : El) : Prop where
  at_ : ElAt a H el
  k : el.k = oneK rows e
  w : el.w = e.w
  n : el.n = e.n
  c : plainT rows e ≤ 1 → KAt a H el (oneC rows e)
theorem OneE.soft {a : Ad} {H H' : Hp} {rows : Bool} {e : Ent} {el : El} (h : OneE a H rows e el) (s : Soft H H') : OneE a H' rows e el := ⟨h.at_.soft s, h.k, h.w, h.n, fun q => (h.c q).soft s⟩
theorem OneE.eq {a : Ad} {H : Hp} {rows : Bool} {e : Ent} {f g : El} (h : OneE a H rows e f) (h' : OneE a H rows e g) (q : plainT rows e ≤ 1) : DMade a f.v g.v H :=
  (h.c q).eq (h'.c q) (by rw [h.k, h'.k]) (by rw [h.n, h'.n]) (by rw [h.w, h'.w])
theorem objK_ways (turn : Int) (h0 : 0 ≤ turn) (h1 : turn ≤ 10) : (isK (objK turn) [5, 6] = true ↔ turn = 10) ∧ objK turn ≠ some 5 ∧ (isK (objK turn) [7, 8] = true ↔ turn = 8 ∨ turn = 9) ∧ (objK turn = some 7 ↔ turn = 8) := by
  have : turn = 0 ∨ turn = 1 ∨ turn = 2 ∨ turn = 3 ∨ turn = 4 ∨ turn = 5 ∨ turn = 6 ∨ turn = 7 ∨ turn = 8 ∨ turn = 9 ∨ turn = 10 := by omega
  rcases this with rfl | rfl | rfl | rfl | rfl | rfl | rfl | rfl | rfl | rfl | rfl <;> decide
theorem ways_corr {H : Hp} {e : Ent} (h : EntOk H e) : (isK (oneK false e) [5, 6] = true ↔ plainT false e ≤ 1) ∧ (oneK false e = some 5 ↔ plainT false e = 0) := by
  have t3 := h.t3
  by_cases t2 : e.t = 2
  · obtain ⟨h0, h1, _⟩ := h.two t2
    obtain ⟨q1, q2, _, _⟩ := objK_ways e.turn h0 h1
    unfold oneK plainT
    rw [if_pos t2, if_neg (fun z => z t2)]
    simp only [Bool.false_eq_true, false_and, if_false, true_and]
    by_cases ht : e.turn = 10
    · rw [if_pos ht]; exact ⟨⟨fun _ => Nat.le_refl _, fun _ => q1.mpr ht⟩, ⟨fun z => absurd z q2, fun z => by cases z⟩⟩
    · rw [if_neg ht]; exact ⟨⟨fun z => absurd (q1.mp z) ht, fun z => by omega⟩, ⟨fun z => absurd z q2, fun z => by cases z⟩⟩
  · unfold oneK plainT
    rw [if_neg t2, if_pos t2]
    simp only [Bool.false_eq_true, if_false]
    have : e.t = 0 ∨ e.t = 1 ∨ e.t = 3 := by omega
    rcases this with q | q | q <;> rw [q] <;> decide
theorem parts_corr {H : Hp} {e : Ent} (h : EntOk H e) : (isK (oneK true e) [7, 8] = true ↔ plainT true e ≤ 1) ∧ (oneK true e = some 7 ↔ plainT true e = 0) := by
  have t3 := h.t3
  by_cases t2 : e.t = 2
  · obtain ⟨h0, h1, _⟩ := h.two t2
    obtain ⟨_, _, q1, q2⟩ := objK_ways e.turn h0 h1
    unfold oneK plainT
    rw [if_pos t2, if_neg (fun z => z t2)]
    simp only [true_and, Bool.true_eq_false, false_and, if_false]
    by_cases h8 : e.turn = 8
    · rw [if_pos h8]; exact ⟨⟨fun _ => by omega, fun _ => q1.mpr (.inl h8)⟩, ⟨fun _ => rfl, fun _ => q2.mpr h8⟩⟩
    · rw [if_neg h8]
      by_cases h9 : e.turn = 9
      · rw [if_pos h9]; exact ⟨⟨fun _ => by omega, fun _ => q1.mpr (.inr h9)⟩, ⟨fun z => absurd (q2.mp z) h8, fun z => by cases z⟩⟩
      · rw [if_neg h9]; exact ⟨⟨fun z => by rcases q1.mp z with z | z <;> contradiction, fun z => by omega⟩, ⟨fun z => absurd (q2.mp z) h8, fun z => by cases z⟩⟩
  · unfold oneK plainT
    rw [if_neg t2, if_pos t2]
    simp only [if_true]
    have : e.t = 0 ∨ e.t = 1 ∨ e.t = 3 := by omega
    rcases this with q | q | q <;> rw [q] <;> decide
theorem chk_ok {w n : Str} (hw : WordS w) (hn : nameS n = true) : chkBad (.str w) (.str n) = none := by
  have e : wordV (.str w) = true := by
    show ((decide (1 ≤ w.length) && decide (w.length ≤ 8)) && w.cps.toList.all bitB) = true
    rw [decide_eq_true hw.l0, decide_eq_true hw.l8]
    exact hw.b
  unfold chkBad
  rw [if_pos e, if_pos (show nameV (.str n) = true from hn)]
theorem name_len {n : Str} (h : nameS n = true) : n.length ≤ 8 := by
  unfold nameS at h
  simp only [Bool.and_eq_true, decide_eq_true_eq] at h
  exact h.1.2
theorem sh_of {z : Str} (h : z.length ≤ 8) : Sh (.str z) := fun y e => by injection e with e; rw [← e]; omega
section
variable {P : Program} {w : World} {K : PySem.W.Frag} {mg : Str → Option Value} {base : Heap} {a : Ad}
def spOne (a : Ad) : Sp := fun vs H Q _ => ∃ (rows : Bool) (p : Addr) (e : Ent), vs = [.bl rows, .ref p] ∧ H p = some (.lst (entL e)) ∧ EntOk H e ∧ ∀ (el : El) H', Same H H' → OneE a H' rows e el → Q el.v H'
theorem ok_one (T : Txt K mg a) : FnOk P w K mg base CX0 7 a._law_one.f a._law_one.fd ["_law_rows_here", "_law_entry"] (spOne a) := by
  have G__law_object : FnOk P w K mg base CX0 6 a._law_object.f a._law_object.fd ["_law_turn"] (spObj a) := ok_obj T
  have GI1 : FnOk P w K mg base (L2.CX P w) 3 (a.I 1).f (a.I 1).fd ["self", "low", "high", "width"] (spNum a) := ok_num T
  have GI2 : FnOk P w K mg base (L2.CX P w) 3 (a.I 2).f (a.I 2).fd ["self", "many"] (spBit a) := ok_bit T
  have GI5 : FnOk P w K mg base (L2.CX P w) 4 (a.I 5).f (a.I 5).fd ["self", "word", "name", "kind"] (spWay a) := ok_Way T
  have GI6 : FnOk P w K mg base (L2.CX P w) 4 (a.I 6).f (a.I 6).fd ["self", "word", "name", "kind"] (spDoor a) := ok_Door T
  have GI7 : FnOk P w K mg base (L2.CX P w) 4 (a.I 7).f (a.I 7).fd ["self", "name", "kind"] (spPart a) := ok_Part T
  have GI8 : FnOk P w K mg base (L2.CX P w) 4 (a.I 8).f (a.I 8).fd ["self", "word", "name", "kind"] (spRoom a) := ok_Room T
  have sc : FnScope ["_law_rows_here", "_law_entry"] ["_law_rows_here", "_law_entry"] (defScope (top 40)) := ⟨rfl, rfl, rfl, by decide +kernel, rfl, by decide +kernel, by decide +kernel⟩
  refine T._law_one.ok sc (fun vs H Q E h => ?_) (fun cdv A outer s H vs Q E hr h => ?_)
  · obtain ⟨rows, p, e, rfl, _⟩ := h
    rfl
  · obtain ⟨rows, p, e, rfl, hp, he, k⟩ := h
    refine ⟨_, (pss_cons (ps_if (pt_cmpR op_eq (pe_ix ix_list (pv 1) pe_int (fun _ _ => rfl)) pe_int (nomark _))
      (pss_one (ps_ret (pe_call G__law_object (hr.mono (by first | decide | omega)) rfl T._law_object.mg T._law_object.kp T._law_object.b .nil pass0 (pa_cons (pe_ix ix_list (pv 1) pe_int (fun _ _ => rfl)) pa_nil))))
      pss_nil)
      (pss_cons (ps_if (pt_cmpR op_eq (pe_ix ix_list (pv 1) pe_int (fun _ _ => rfl)) pe_int (nomark _))
      (pss_one (ps_ret (pe_ix ix_list (pv 1) pe_int (fun _ _ => rfl))))
      pss_nil)
      (pss_cons (ps_if (PW.pt (pw_and (pt_val (pv 0)) (pw_and1 (pt_cmpR op_eq (pe_ix ix_list (pv 1) pe_int (fun _ _ => rfl)) pe_int (nomark _)))))
      (pss_one (ps_ret (pe_make T.mk7 GI7 (hr.mono (by decide)) rfl (T.kc 7 (by decide)).gl T.Ib7 .nil passF (pa_cons (pe_ix ix_list (pv 1) pe_int (fun _ _ => rfl)) (pa_cons (pe_make T.mk2 GI2 (hr.mono (by decide)) rfl (T.kc 2 (by decide)).gl T.Ib2 .nil passF (pa_cons pe_int pa_nil)) pa_nil)))))
      pss_nil)
      (pss_cons (ps_if (pt_val (pv 0))
      (pss_one (ps_ret (pe_make T.mk8 GI8 (hr.mono (by decide)) rfl (T.kc 8 (by decide)).gl T.Ib8 .nil passF (pa_cons (pe_ix ix_list (pv 1) pe_int (fun _ _ => rfl)) (pa_cons (pe_ix ix_list (pv 1) pe_int (fun _ _ => rfl)) (pa_cons pe_non pa_nil))))))
      pss_nil)
      (pss_cons (ps_if (pt_cmpR op_eq (pe_ix ix_list (pv 1) pe_int (fun _ _ => rfl)) pe_int (nomark _))
      (pss_one (ps_ret (pe_make T.mk5 GI5 (hr.mono (by decide)) rfl (T.kc 5 (by decide)).gl T.Ib5 .nil passF (pa_cons (pe_ix ix_list (pv 1) pe_int (fun _ _ => rfl)) (pa_cons (pe_ix ix_list (pv 1) pe_int (fun _ _ => rfl)) (pa_cons (pe_mk0 (T.kc 0 (by decide)).mks T.ini0 (T.kc 0 (by decide)).kp (T.kc 0 (by decide)).gl) pa_nil))))))
      pss_nil)
      (pss_one (ps_ret (pe_make T.mk6 GI6 (hr.mono (by decide)) rfl (T.kc 6 (by decide)).gl T.Ib6 .nil passF (pa_cons (pe_ix ix_list (pv 1) pe_int (fun _ _ => rfl)) (pa_cons (pe_ix ix_list (pv 1) pe_int (fun _ _ => rfl)) (pa_cons (pe_make T.mk1 GI1 (hr.mono (by decide)) rfl (T.kc 1 (by decide)).gl T.Id1 (.cons (show RelV V.non Value.none from rfl) .nil) passF (pa_cons pe_int (pa_cons pe_int pa_nil))) pa_nil))))))))))), ?_⟩
    have t3 := he.t3
    by_cases t2 : e.t = 2
    · have hp2 : H p = some (.lst [.int 2, .str e.w, .str e.n, .int e.turn]) := by rw [hp]; unfold entL; rw [if_pos t2]
      obtain ⟨h0, h1, hw, hn⟩ := he.two t2
      walk_at "go"
      refine i_yes (decide_eq_true rfl) ?_
      walk_at "go"
      refine ⟨e.turn, rfl, h0, h1, fun el H' s1 o => ?_⟩
      walk_at "go"
      refine k el H' s1 ⟨o.at_, by rw [o.k]; unfold oneK; rw [if_pos t2], by rw [o.w, hw], by rw [o.n, hn], fun q => ?_⟩
      have : e.turn = 8 ∨ e.turn = 9 ∨ e.turn = 10 := by
        unfold plainT at q
        rw [if_neg (fun z => z t2)] at q
        split at q
        · rename_i z; exact .inl z.2
        · split at q
          · rename_i z; exact .inr (.inl z.2)
          · split at q
            · rename_i z; exact .inr (.inr z.2)
            · omega
      unfold oneC
      rw [if_pos t2]
      rcases this with h | h | h
      · rw [if_pos h]; exact o.c8 h
      · rw [if_neg (by omega)]; exact o.c9 h
      · rw [if_neg (by omega)]; exact o.c10 h
    · by_cases h3 : e.t = 3
      · have hp3 : H p = some (.lst [.int 3, .str e.w, .str e.n, e.x]) := by rw [hp]; unfold entL; rw [if_neg t2, if_pos h3]
        obtain ⟨hx, hw, hn⟩ := he.three h3
        walk_at "go"
        refine i_no (decide_eq_false (by intro z; cases z)) ?_
        walk_at "go"
        refine i_yes (decide_eq_true rfl) ?_
        walk_at "go"
        refine k ⟨e.x, none, e.w, e.n⟩ H same_rfl ⟨⟨.th hx, fun z => by cases z⟩, by unfold oneK; rw [if_neg t2, if_pos h3], rfl, rfl, fun q => ?_⟩
        unfold plainT at q
        rw [if_pos t2] at q
        omega
      · have ht : e.t ≤ 1 := by omega
        have hp1 : H p = some (.lst [.int e.t, .str e.w, .str e.n]) := by rw [hp]; unfold entL; rw [if_neg t2, if_neg h3]
        obtain ⟨hw, hn⟩ := he.plain ht
        walk_at "go"
        refine i_no (decide_eq_false (fun z => t2 (by have := V.int.inj z; omega))) ?_
        walk_at "go"
        refine i_no (decide_eq_false (fun z => h3 (by have := V.int.inj z; omega))) ?_
        walk_at "go"
        have shw := sh_of hw.l8
        have shn := sh_of (name_len hn)
        have ck := chk_ok hw hn
        have pl : plainT rows e = e.t := by unfold plainT; rw [if_pos t2]
        have ok1 : oneK rows e = if rows = true then (if e.t = 0 then some 7 else some 8) else (if e.t = 0 then some 5 else some 6) := by unfold oneK; rw [if_neg t2, if_neg h3]
        have oc1 : oneC rows e = if rows = true then (if e.t = 0 then 3 else 0) else (if e.t = 0 then 1 else 4) := by unfold oneC; rw [if_neg t2]
        cases rows with
        | true =>
          refine i_yes rfl ?_
          walk_at "go"
          refine i_itd (fun h0 => ?_) (fun h0 => ?_)
          · have h0 : e.t = 0 := by have := V.int.inj h0; omega
            walk_at "go"
            refine i_make ?_
            walk_at "go"
            refine i_make ?_
            walk_at "go"
            intro x dx nx ndx ne
            refine ⟨x, dx, _, rfl, upd_same, .int _, fun e1 H1 kp hx => ⟨rfl, ?_⟩, fun z e' => by cases e'⟩
            have s1 := kp.same nx ndx
            walk_at "go"
            intro x2 dx2 nx2 ndx2 ne2
            refine ⟨x2, dx2, _, _, _, rfl, upd_same, .str _, shn, .ins (i := 2) (by decide) (same2 nx2 ndx2 _ _ hx), fun e1 H2 kp2 hx2 => ⟨rfl, ?_⟩, fun z e' => by
              have : partBad (.str e.n) (some 2) = none := by unfold partBad; rw [if_pos (show nameV (.str e.n) = true from hn)]; rfl
              rw [this] at e'; cases e'⟩
            have ka : KAt a H2 ⟨.ref x2, some 7, e.w, e.n⟩ 3 := ⟨x2, 7, dx2, _, rfl, .inr (.inr (.inl rfl)), rfl, hx2, x, dx, rfl, kp2.same nx2 ndx2 _ _ hx⟩
            exact k ⟨.ref x2, some 7, e.w, e.n⟩ H2 (s1.trans (kp2.same nx2 ndx2)) ⟨ka.el, by rw [ok1, if_pos rfl, if_pos h0], rfl, rfl, fun _ => by rw [oc1, if_pos rfl, if_pos h0]; exact ka⟩
          · have h0 : e.t ≠ 0 := fun z => h0 (by rw [z]; rfl)
            walk_at "go"
            refine i_make ?_
            walk_at "go"
            intro x2 dx2 nx2 ndx2 ne2
            refine ⟨x2, dx2, _, _, _, _, rfl, upd_same, .str _, shw, .str _, shn, .th .non, fun e1 H2 kp2 hx2 => ⟨rfl, ?_⟩, fun z e' => by
              have : roomBad (.str e.w) (.str e.n) .non none = none := by unfold roomBad; rw [ck]; rfl
              rw [this] at e'; cases e'⟩
            have ka : KAt a H2 ⟨.ref x2, some 8, e.w, e.n⟩ 0 := ⟨x2, 8, dx2, _, rfl, .inr (.inr (.inr rfl)), rfl, hx2, rfl⟩
            exact k ⟨.ref x2, some 8, e.w, e.n⟩ H2 (kp2.same nx2 ndx2) ⟨ka.el, by rw [ok1, if_pos rfl, if_neg h0], rfl, rfl, fun _ => by rw [oc1, if_pos rfl, if_neg h0]; exact ka⟩
        | false =>
          refine i_no rfl ?_
          walk_at "go"
          refine i_itd (fun h0 => ?_) (fun h0 => ?_)
          · have h0 : e.t = 0 := by have := V.int.inj h0; omega
            walk_at "go"
            refine i_make ?_
            walk_at "go"
            intro x dx nx ndx ne
            have s1 := same2 (o := .own x) (o' := .ins (a.C 0) dx []) nx ndx
            have hx := upd_same (H := upd H dx (.own x)) (a := x) (o := .ins (a.C 0) dx [])
            generalize upd (upd H dx (.own x)) x (.ins (a.C 0) dx []) = H1 at s1 hx ⊢
            walk_at "go"
            intro x2 dx2 nx2 ndx2 ne2
            refine ⟨x2, dx2, _, _, _, _, rfl, upd_same, .str _, shw, .str _, shn, .ins (i := 0) (by decide) (same2 nx2 ndx2 _ _ hx), fun e1 H2 kp2 hx2 => ⟨rfl, ?_⟩, fun z e' => by
              have : wayBad (.str e.w) (.str e.n) (some 0) = none := by unfold wayBad; rw [ck]; rfl
              rw [this] at e'; cases e'⟩
            have ka : KAt a H2 ⟨.ref x2, some 5, e.w, e.n⟩ 1 := ⟨x2, 5, dx2, _, rfl, .inl rfl, rfl, hx2, x, dx, rfl, kp2.same nx2 ndx2 _ _ hx⟩
            exact k ⟨.ref x2, some 5, e.w, e.n⟩ H2 (s1.trans (kp2.same nx2 ndx2)) ⟨ka.el, by rw [ok1, if_neg Bool.false_ne_true, if_pos h0], rfl, rfl, fun _ => by rw [oc1, if_neg Bool.false_ne_true, if_pos h0]; exact ka⟩
          · have h0 : e.t ≠ 0 := fun z => h0 (by rw [z]; rfl)
            walk_at "go"
            refine i_make ?_
            walk_at "go"
            refine i_make ?_
            walk_at "go"
            intro x dx nx ndx ne
            refine ⟨x, dx, _, _, _, rfl, upd_same, .int _, .int _, .non, fun e1 H1 kp hx => ⟨rfl, ?_⟩, fun z e' => by cases e'⟩
            have s1 := kp.same nx ndx
            walk_at "go"
            intro x2 dx2 nx2 ndx2 ne2
            refine ⟨x2, dx2, _, _, _, _, rfl, upd_same, .str _, shw, .str _, shn, .ins (i := 1) (by decide) (same2 nx2 ndx2 _ _ hx), fun e1 H2 kp2 hx2 => ⟨rfl, ?_⟩, fun z e' => by
              have : doorBad (.str e.w) (.str e.n) (.ref x) (some 1) = none := by unfold doorBad; rw [ck]; exact if_pos (.inr (.inl rfl))
              rw [this] at e'; cases e'⟩
            have ka : KAt a H2 ⟨.ref x2, some 6, e.w, e.n⟩ 4 := ⟨x2, 6, dx2, _, rfl, .inr (.inl rfl), rfl, hx2, x, dx, rfl, kp2.same nx2 ndx2 _ _ hx⟩
            exact k ⟨.ref x2, some 6, e.w, e.n⟩ H2 (s1.trans (kp2.same nx2 ndx2)) ⟨ka.el, by rw [ok1, if_neg Bool.false_ne_true, if_neg h0], rfl, rfl, fun _ => by rw [oc1, if_neg Bool.false_ne_true, if_neg h0]; exact ka⟩
end
end Me
set_option maxHeartbeats 8000000
namespace Me
open PySem L2


def PlAt (H : Hp) (v : V) (t : Nat) (w n : Str) : Prop := ∃ q rest, v = .ref q ∧ H q = some (.lst (.int t :: .str w :: .str n :: rest))
theorem PlAt.same {H H' : Hp} {v : V} {t : Nat} {w n : Str} (h : PlAt H v t w n) (s : Same H H') : PlAt H' v t w n := by
  obtain ⟨q, rest, e, h⟩ := h
  exact ⟨q, rest, e, s _ _ h⟩
theorem lc_filt {K : PySem.W.Frag} {R : R2} {c : Int} {f : Int → Bool} (hR : ∀ i H (Q : VK), Q (.bl (f i)) H → R (.int i) (.int c) H Q) {σ : L2.St} {H : Hp} {Q : VK} {G : Addr} {ts : List Nat} {xs : List V} (h1 : σ[1]? = some (some (.ref G))) (hG : H G = some (.lst xs)) (hl : xs.length = ts.length) (h100 : ts.length ≤ 100)
    (hx : ∀ (i : Nat) v, xs[i]? = some v → ∃ t w n, ts[i]? = some t ∧ PlAt H v t w n) (hw : ∀ x, wipe ((wipe σ [3]).set 3 x) [3] = wipe σ [3]) (hg : ∀ x, ((wipe σ [3]).set 3 x)[3]? = some x)
    (kk : ∀ D acc H', H D = none → Same H H' → H' D = some (.lst acc) → (acc = [] ↔ ∀ t ∈ ts, f t = false) → Q (.ref D) H') :
    tLc (iList K (tVar 1)) (gName 3) (tTest (tOp R (tOp (rIxL K) (tVar 3) (tC (.int 0))) (tC (.int c)))) (tVar 3) [3] σ H Q := by
  refine ⟨.ref G, h1, G, rfl, ⟨_, SqL.of hG⟩, fun D nD => ?_⟩
  refine lc_list (xs := xs) (fun i H' => ∃ acc, H' = upd H D (.lst acc) ∧ acc.length ≤ i ∧ (acc = [] ↔ ∀ t ∈ ts.take i, f t = false)) ⟨[], rfl, by simp, by simp⟩ ?_ ?_ ?_
  · rintro i H1 _ ⟨acc, rfl, _⟩
    exact SqL.of (by rw [upd_ne (ne_of_none hG nD)]; exact hG)
  · rintro i v H1 hv ⟨acc, rfl, ha, hf⟩
    obtain ⟨t, w, n, ht, q, rest, rfl, hq⟩ := hx i v hv
    have it := (List.getElem?_eq_some_iff.mp ht).1
    have et := take_get ht
    refine ⟨hw _, ?_⟩
    refine i_test (i_op (i_op ⟨_, hg _, i_c (i_ixl (show upd H D (.lst acc) q = _ by rw [upd_ne (ne_of_none hq nD)]; exact hq) (v := .int t) (atI_nat (j := 0) rfl) (i_c (hR _ _ _ ⟨_, rfl, ?_⟩)))⟩))
    cases hft : f t with
    | true =>
      refine i_yes rfl ⟨_, hg _, acc, upd_same, Nat.lt_of_le_of_lt (show acc.length ≤ 100 by omega) (by decide), acc ++ [.ref q], by rw [upd_upd], by rw [List.length_append]; show acc.length + 1 ≤ _; omega, ?_⟩
      constructor
      · intro z; simp at z
      · intro z
        have := z t (by rw [et]; simp)
        rw [hft] at this; cases this
    | false =>
      refine i_no rfl ⟨acc, rfl, by omega, ?_⟩
      rw [hf, et]
      constructor
      · intro z t' ht'
        rcases List.mem_append.mp ht' with h | h
        · exact z t' h
        · rw [List.mem_singleton.mp h]; exact hft
      · intro z t' ht'
        exact z t' (List.mem_append_left _ ht')
  · rintro H1 ⟨acc, rfl, ha, hf⟩
    rw [hl, List.take_length] at hf
    exact kk D acc _ nD (same_new same_rfl nD) upd_same hf
section
variable {P : Program} {w : World} {K : PySem.W.Frag} {mg : Str → Option Value} {base : Heap} {a : Ad}
def spPlain : Sp := fun vs H Q _ => ∃ (rows : Bool) (p : Addr) (e : Ent), vs = [.bl rows, .ref p] ∧ H p = some (.lst (entL e)) ∧ EntOk H e ∧ ∀ v H', Same H H' → PlAt H' v (plainT rows e) e.w e.n → (∀ q, v = .ref q → q = p ∨ H q = none) → Q v H'
theorem ok_plain (T : Txt K mg a) : FnOk P w K mg base CX0 1 a._law_plain.f a._law_plain.fd ["_law_rows_here", "_law_entry"] spPlain := by
  have sc : FnScope ["_law_rows_here", "_law_entry"] ["_law_rows_here", "_law_entry"] (defScope (top 41)) := ⟨rfl, rfl, rfl, by decide +kernel, rfl, by decide +kernel, by decide +kernel⟩
  refine T._law_plain.ok sc (fun vs H Q E h => ?_) (fun cdv A outer s H vs Q E hr h => ?_)
  · obtain ⟨rows, p, e, rfl, _⟩ := h
    rfl
  · obtain ⟨rows, p, e, rfl, hp, he, k⟩ := h
    refine ⟨_, (pss_cons (ps_if (pt_cmpR op_ne (pe_ix ix_list (pv 1) pe_int (fun _ _ => rfl)) pe_int (nomark _))
      (pss_one (ps_ret (pv 1)))
      pss_nil)
      (pss_cons (ps_if (PW.pt (pw_and (pt_val (pv 0)) (pw_and1 (pt_cmpR op_eq (pe_ix ix_list (pv 1) pe_int (fun _ _ => rfl)) pe_int (nomark _)))))
      (pss_one (ps_ret (pe_lst (pa_cons pe_int (pa_cons pe_str (pa_cons pe_str pa_nil))))))
      pss_nil)
      (pss_cons (ps_if (PW.pt (pw_and (pt_val (pv 0)) (pw_and1 (pt_cmpR op_eq (pe_ix ix_list (pv 1) pe_int (fun _ _ => rfl)) pe_int (nomark _)))))
      (pss_one (ps_ret (pe_lst (pa_cons pe_int (pa_cons pe_str (pa_cons pe_str pa_nil))))))
      pss_nil)
      (pss_cons (ps_if (PW.pt (pw_and (pt_not (pt_val (pv 0))) (pw_and1 (pt_cmpR op_eq (pe_ix ix_list (pv 1) pe_int (fun _ _ => rfl)) pe_int (nomark _)))))
      (pss_one (ps_ret (pe_lst (pa_cons pe_int (pa_cons pe_str (pa_cons pe_str pa_nil))))))
      pss_nil)
      (pss_one (ps_ret (pe_lst (pa_cons pe_int (pa_cons pe_str (pa_cons pe_str pa_nil)))))))))), ?_⟩
    by_cases t2 : e.t = 2
    · have hp2 : H p = some (.lst [.int 2, .str e.w, .str e.n, .int e.turn]) := by rw [hp]; unfold entL; rw [if_pos t2]
      obtain ⟨h0, h1, hw, hn⟩ := he.two t2
      have fin : ∀ (t : Nat) q, H q = none → t = plainT rows e → Q (.ref q) (upd H q (.lst [.int t, .str "0", .str "a"])) := fun t q nq ht => k _ _ (same_new same_rfl nq) ⟨q, [], rfl, by rw [upd_same, ← ht, hw, hn]⟩ fun r e => .inr (by rw [← V.ref.inj e]; exact nq)
      have pl : plainT rows e = if rows = true ∧ e.turn = 8 then 0 else if rows = true ∧ e.turn = 9 then 1 else if rows = false ∧ e.turn = 10 then 1 else 3 := by unfold plainT; rw [if_neg (fun z => z t2)]
      walk_at "go"
      refine i_no (by rw [decide_eq_true rfl]; rfl) ?_
      walk_at "go"
      cases rows with
      | true =>
        refine i_yes rfl ?_
        walk_at "go"
        refine i_itei (fun h8 => ?_) (fun h8 => ?_)
        · walk_at "go"
          rename_i q nq
          exact fin 0 q nq (by rw [pl, if_pos ⟨rfl, h8⟩])
        walk_at "go"
        refine i_itei (fun h9 => ?_) (fun h9 => ?_)
        · walk_at "go"
          rename_i q nq
          exact fin 1 q nq (by rw [pl, if_neg (fun z => h8 z.2), if_pos ⟨rfl, h9⟩])
        walk_at "go"
        refine i_no rfl ?_
        walk_at "go"
        rename_i q nq
        exact fin 3 q nq (by rw [pl, if_neg (fun z => h8 z.2), if_neg (fun z => h9 z.2), if_neg (fun z => by cases z.1)])
      | false =>
        refine i_no rfl ?_
        walk_at "go"
        refine i_yes rfl ?_
        walk_at "go"
        refine i_itei (fun h8 => ?_) (fun h8 => ?_)
        · walk_at "go"
          rename_i q nq
          exact fin 1 q nq (by rw [pl, if_neg (fun z => by cases z.1), if_neg (fun z => by cases z.1), if_pos ⟨rfl, h8⟩])
        walk_at "go"
        rename_i q nq
        exact fin 3 q nq (by rw [pl, if_neg (fun z => by cases z.1), if_neg (fun z => by cases z.1), if_neg (fun z => h8 z.2)])
    · obtain ⟨rest, hr2⟩ : ∃ rest, entL e = .int e.t :: .str e.w :: .str e.n :: rest := by
        unfold entL
        rw [if_neg t2]
        split
        · rename_i h3; exact ⟨[e.x], by rw [h3]; rfl⟩
        · exact ⟨[], rfl⟩
      rw [hr2] at hp
      walk_at "go"
      refine i_ixl hp (v := .int e.t) (atI_nat (j := 0) rfl) ?_
      walk_at "go"
      refine i_yes (by rw [decide_eq_false (fun z => t2 (by have := V.int.inj z; omega))]; rfl) ?_
      walk_at "go"
      exact k _ H same_rfl ⟨p, rest, rfl, by rw [hp]; unfold plainT; rw [if_pos t2]⟩ fun r e => .inl (V.ref.inj e).symm
theorem i_most {rows : Bool} {D : Ends} {σ : L2.St} {H : Hp} (h2 : σ.set 2 (some (.int 12)) = σ) (q : ∀ M : Int, M = (if rows = true then 8 else 12) → D.nx (σ.set 2 (some (.int M))) H) : if rows = true then tAsg (tC (.int 8)) (gName 2) D σ H else tNext D σ H := by
  cases rows with
  | true => exact i_yes rfl (q 8 rfl)
  | false =>
    refine i_no rfl ?_
    have := q 12 rfl
    rw [h2] at this
    exact this
structure T3 where
  t : Nat
  w : Str
  n : Str
def goodP (rows : Bool) (l : List T3) : Prop := (1 ≤ l.length ∧ l.length ≤ (if rows = true then 8 else 12)) ∧ (∀ z ∈ l, z.t ≤ 1) ∧ (l.map (·.n)).Nodup ∧ (rows = false → Apart (l.map (·.w))) ∧ (rows = true → ∃ z, l.getLast? = some z ∧ z.t = 0) ∧ (rows = false → ∃ z ∈ l, z.t = 0)
def spGood : Sp := fun vs H Q _ => ∃ (rows : Bool) (G : Addr) (xs : List V) (l : List T3), vs = [.bl rows, .ref G] ∧ H G = some (.lst xs) ∧ xs.length = l.length ∧ l.length ≤ 100 ∧ (∀ (i : Nat) v, xs[i]? = some v → ∃ z, l[i]? = some z ∧ PlAt H v z.t z.w z.n) ∧ ∀ (b : Bool) H', (b = true ↔ goodP rows l) → Same H H' → Q (.bl b) H'
theorem ok_good (T : Txt K mg a) : FnOk P w K mg base CX0 1 a._law_good.f a._law_good.fd ["_law_rows_here", "_law_plain_here"] spGood := by
  have sc : FnScope ["_law_rows_here", "_law_plain_here", "_law_most", "_law_entry", "_law_k", "_law_j", "_law_one_here", "_law_other"] ["_law_rows_here", "_law_plain_here"] (defScope (top 42)) := ⟨rfl, rfl, rfl, by decide +kernel, rfl, by decide +kernel, by decide +kernel⟩
  refine T._law_good.ok sc (fun vs H Q E h => ?_) (fun cdv A outer s H vs Q E hr h => ?_)
  · obtain ⟨rows, G, xs, l, rfl, _⟩ := h
    rfl
  · obtain ⟨rows, G, xs, l, rfl, hG, hl, h100, hx, k⟩ := h
    refine ⟨_, (pss_cons (ps_set (i := 2) sc.nd rfl (by first | exact Or.inl rfl | exact Or.inr rfl) pe_int)
      (pss_cons (ps_if (pt_val (pv 0))
      (pss_one (ps_set (i := 2) sc.nd rfl (by first | exact Or.inl rfl | exact Or.inr rfl) pe_int))
      pss_nil)
      (pss_cons (ps_if (PW.pt (pw_or (pt_cmpR op_lt (pe_callB call_len_seq (by rfl) T.len PySem.boot_len (pa_cons (pv 1) pa_nil)) pe_int (nomark _)) (pw_or1 (pt_cmpR op_gt (pe_callB call_len_seq (by rfl) T.len PySem.boot_len (pa_cons (pv 1) pa_nil)) (pv 2) (nomark _)))))
      (pss_one (ps_ret pe_bl))
      pss_nil)
      (pss_cons (ps_if (pt_cmpR op_gt (pe_callB call_len_seq (by rfl) T.len PySem.boot_len (pa_cons (pe_lc (te := tVar 3) (tt := tTest (tOp (rI0 fun i j => V.bl (decide (i > j))) (tOp (rIxL K) (tVar 3) (tC (.int 0))) (tC (.int 1)))) (own := [("_law_entry", 3)]) (g := gName 3) (by rfl) sc.nd (pi_list (pv 1)) (blkOk_by (own := [("_law_entry", 3)]) (N := ["_law_rows_here", "_law_plain_here", "_law_most", "_law_entry", "_law_k", "_law_j", "_law_one_here", "_law_other"]) (sc := defScope (top 42)) (by decide +kernel)) (fun _ _ _ _ _ => pg_name (i := 3) sc.nd rfl (Or.inl rfl)) (fun _ _ _ _ _ => (by exact (pts_one (pt_cmpR op_gt (pe_ix ix_list (pv 3) pe_int (fun _ _ => rfl)) pe_int (nomark _))))) (fun _ _ _ _ _ => (by exact (pv 3)))) pa_nil)) pe_int (nomark _))
      (pss_one (ps_ret pe_bl))
      pss_nil)
      (pss_cons (ps_for PassesOwn.never rfl (pi_range1 rfl T.range (pa_cons (pe_callB call_len_seq (by rfl) T.len PySem.boot_len (pa_cons (pv 1) pa_nil)) pa_nil)) (pg_name (i := 4) sc.nd rfl (by first | exact Or.inl rfl | exact Or.inr rfl))
      (pss_one (ps_for PassesOwn.never rfl (pi_range1 rfl T.range (pa_cons (pv 4) pa_nil)) (pg_name (i := 5) sc.nd rfl (by first | exact Or.inl rfl | exact Or.inr rfl))
      (pss_cons (ps_set (i := 6) sc.nd rfl (by first | exact Or.inl rfl | exact Or.inr rfl) (pe_ix ix_list (pe_ix ix_list (pv 1) (pv 4) (fun _ _ => rfl)) pe_int (fun _ _ => rfl)))
      (pss_cons (ps_set (i := 7) sc.nd rfl (by first | exact Or.inl rfl | exact Or.inr rfl) (pe_ix ix_list (pe_ix ix_list (pv 1) (pv 5) (fun _ _ => rfl)) pe_int (fun _ _ => rfl)))
      (pss_cons (ps_if (pt_cmpR op_eq (pe_ix ix_list (pe_ix ix_list (pv 1) (pv 4) (fun _ _ => rfl)) pe_int (fun _ _ => rfl)) (pe_ix ix_list (pe_ix ix_list (pv 1) (pv 5) (fun _ _ => rfl)) pe_int (fun _ _ => rfl)) (nomark _))
      (pss_one (ps_ret pe_bl))
      pss_nil)
      (pss_one (ps_if (PW.pt (pw_and (pt_not (pt_val (pv 0))) (pw_and1 (PW.pt (pw_or (pt_val (pe_m1 F.slot_str_startswith F.type_str_startswith mt_startswith (pv 6) (pv 7) rfl rfl rfl)) (pw_or1 (pt_val (pe_m1 F.slot_str_startswith F.type_str_startswith mt_startswith (pv 7) (pv 6) rfl rfl rfl))))))))
      (pss_one (ps_ret pe_bl))
      pss_nil))))))))
      (pss_cons (ps_if (pt_val (pv 0))
      (pss_one (ps_ret (pe_cmpR op_eq (pe_ix ix_list (pe_ix ix_list (pv 1) (pe_op op_sub (pe_callB call_len_seq (by rfl) T.len PySem.boot_len (pa_cons (pv 1) pa_nil)) pe_int) (fun _ _ => rfl)) pe_int (fun _ _ => rfl)) pe_int (nomark _))))
      pss_nil)
      (pss_one (ps_ret (pe_cmpR op_gt (pe_callB call_len_seq (by rfl) T.len PySem.boot_len (pa_cons (pe_lc (te := tVar 3) (tt := tTest (tOp rEq (tOp (rIxL K) (tVar 3) (tC (.int 0))) (tC (.int 0)))) (own := [("_law_entry", 3)]) (g := gName 3) (by rfl) sc.nd (pi_list (pv 1)) (blkOk_by (own := [("_law_entry", 3)]) (N := ["_law_rows_here", "_law_plain_here", "_law_most", "_law_entry", "_law_k", "_law_j", "_law_one_here", "_law_other"]) (sc := defScope (top 42)) (by decide +kernel)) (fun _ _ _ _ _ => pg_name (i := 3) sc.nd rfl (Or.inl rfl)) (fun _ _ _ _ _ => (by exact (pts_one (pt_cmpR op_eq (pe_ix ix_list (pv 3) pe_int (fun _ _ => rfl)) pe_int (nomark _))))) (fun _ _ _ _ _ => (by exact (pv 3)))) pa_nil)) pe_int (nomark _)))))))))), ?_⟩
    walk_at "go"
    refine i_most rfl fun M hM => ?_
    walk_at "go"
    have no : ∀ H', Same H H' → ¬ goodP rows l → Q (.bl false) H' := fun H' s q => k false _ ⟨fun z => (by cases z), fun z => absurd z q⟩ s
    have hM8 : M = (if rows = true then (8 : Nat) else 12 : Nat) := by rw [hM]; cases rows <;> rfl
    refine i_itd (fun h1 => ?_) (fun h1 => ?_)
    · exact i_yes rfl (no _ same_rfl fun q => by have := q.1.1; omega)
    walk_at "go"
    refine i_itd (fun h2 => ?_) (fun h2 => ?_)
    · exact (no _ same_rfl fun q => by have := q.1.2; omega)
    walk_at "go"
    have hxt : ∀ (i : Nat) v, xs[i]? = some v → ∃ t w n, (l.map (·.t))[i]? = some t ∧ PlAt H v t w n := fun i v hv => by
      obtain ⟨z, hz, pz⟩ := hx i v hv
      exact ⟨z.t, z.w, z.n, by rw [List.getElem?_map, hz]; rfl, pz⟩
    refine lc_filt (f := fun i => decide (1 < i)) (fun i H Q q => ⟨_, _, rfl, rfl, q⟩) rfl hG (by rw [hl, List.length_map]) (by rw [List.length_map]; exact h100) hxt (fun _ => rfl) (fun _ => rfl) (fun D acc H1 nD s1 hD hacc => ?_)
    walk_at "go"
    refine i_itd (fun h3 => ?_) (fun h3 => ?_)
    · refine no _ s1 fun q => ?_
      have : acc = [] := hacc.mpr fun t ht => by
        obtain ⟨z, hz, rfl⟩ := List.mem_map.mp ht
        have := q.2.1 z hz
        exact decide_eq_false (by omega)
      rw [this] at h3; simp at h3
    have hacc0 : acc = [] := by
      cases acc with
      | nil => rfl
      | cons b r => rw [List.length_cons] at h3; omega
    have ht1 : ∀ z ∈ l, z.t ≤ 1 := fun z hz => by
      have := hacc.mp hacc0 z.t (List.mem_map.mpr ⟨z, hz, rfl⟩)
      have := of_decide_eq_false this
      omega
    have at_ : ∀ (i : Nat), i < l.length → ∃ z q rest, xs[i]? = some (.ref q) ∧ l[i]? = some z ∧ H q = some (.lst (.int z.t :: .str z.w :: .str z.n :: rest)) := fun i hi => by
      have hxi : xs[i]? = some (xs[i]'(by omega)) := List.getElem?_eq_getElem (by omega)
      obtain ⟨z, hz, q, rest, e, hq⟩ := hx i _ hxi
      exact ⟨z, q, rest, by rw [hxi, e], hz, hq⟩
    walk_at "go"
    refine ⟨_, rfl, G, xs, rfl, .inl (SqL.of (s1 _ _ hG)), (xs.length : Int), rfl, by omega, by omega, for_range (n := xs.length) (fun i σ H' => Same H H' ∧ (∃ v3 v4 v5 v6 v7, σ = [some (.bl rows), some (.ref G), some (.int M), v3, v4, v5, v6, v7]) ∧
      ∀ (m n : Nat) u v, n < m → m < i → l[m]? = some u → l[n]? = some v → u.n ≠ v.n ∧ (rows = false → clash u.w v.w = false)) ⟨s1, ⟨_, _, _, _, _, rfl⟩, fun m n u v _ h => by omega⟩ ?_ ?_⟩
    · rintro i σ H2 hi ⟨s2, ⟨v3, v4, v5, v6, v7, rfl⟩, hp2⟩
      rw [Int.zero_add]
      obtain ⟨zi, qi, ri, xi, li, hqi⟩ := at_ i (by omega)
      walk_at "go"
      refine ⟨_, rfl, (i : Int), rfl, by omega, by omega, for_range (n := i) (fun j σ H' => Same H H' ∧ (∃ v3 v5 v6 v7, σ = [some (.bl rows), some (.ref G), some (.int M), v3, some (.int i), v5, v6, v7]) ∧
        ∀ (n : Nat) v, n < j → l[n]? = some v → zi.n ≠ v.n ∧ (rows = false → clash zi.w v.w = false)) ⟨s2, ⟨_, _, _, _, rfl⟩, fun n v h => by omega⟩ ?_ ?_⟩
      · rintro j σ H3 hj ⟨s3, ⟨v3, v5, v6, v7, rfl⟩, hp3⟩
        rw [Int.zero_add]
        obtain ⟨zj, qj, rj, xj, lj, hqj⟩ := at_ j (by omega)
        have hG3 := s3 _ _ hG
        have hqi3 := s3 _ _ hqi
        have hqj3 := s3 _ _ hqj
        have bad : (zi.n = zj.n ∨ (rows = false ∧ clash zi.w zj.w = true)) → Q (.bl false) H3 := fun b => by
          refine no _ s3 fun q => ?_
          rcases b with b | ⟨b1, b2⟩
          · have := q.2.2.1
            rw [List.Nodup, List.pairwise_iff_getElem] at this
            have l1 := (List.getElem?_eq_some_iff.mp li)
            have l2 := (List.getElem?_eq_some_iff.mp lj)
            have := this j i (by rw [List.length_map]; exact l2.1) (by rw [List.length_map]; exact l1.1) hj
            rw [List.getElem_map, List.getElem_map, l1.2, l2.2] at this
            exact this b.symm
          · have := apart_iff.mp (q.2.2.2.1 b1) j i zj.w zi.w hj (by rw [List.getElem?_map, lj]; rfl) (by rw [List.getElem?_map, li]; rfl)
            rw [clash_comm, b2] at this; cases this
        have okk : zi.n ≠ zj.n → (rows = false → clash zi.w zj.w = false) → ∀ (n : Nat) v, n < j + 1 → l[n]? = some v → zi.n ≠ v.n ∧ (rows = false → clash zi.w v.w = false) := fun q1 q2 n v hn hv => by
          by_cases q : n < j
          · exact hp3 n v q hv
          · have e : n = j := by omega
            subst e
            rw [lj] at hv
            cases hv
            exact ⟨q1, q2⟩
        walk_at "go"
        refine i_ixl hG3 (atI_nat xi) ?_
        walk_at "go"
        refine i_ixl hqi3 (atI_nat (j := 1) rfl) ?_
        walk_at "go"
        refine i_ixl hG3 (atI_nat xj) ?_
        walk_at "go"
        refine i_ixl hqj3 (atI_nat (j := 1) rfl) ?_
        walk_at "go"
        refine i_ixl hG3 (atI_nat xi) ?_
        walk_at "go"
        refine i_ixl hqi3 (atI_nat (j := 2) rfl) ?_
        walk_at "go"
        refine i_ixl hG3 (atI_nat xj) ?_
        walk_at "go"
        refine i_ixl hqj3 (atI_nat (j := 2) rfl) ?_
        walk_at "go"
        refine i_ites (fun hn => ?_) (fun hn => ?_)
        · walk_at "go"
          exact bad (.inl hn)
        walk_at "go"
        cases rows with
        | true =>
          refine i_no rfl ?_
          exact ⟨s3, ⟨_, _, _, _, rfl⟩, okk hn fun z => by cases z⟩
        | false =>
          refine i_yes rfl ?_
          walk_at "go"
          refine i_m1' ?_
          walk_at "go"
          refine ⟨⟨_, rfl⟩, _, rfl, _, _, rfl, rfl, _, rfl, ?_⟩
          refine i_itb (fun g1 => ?_) (fun g1 => ?_)
          · refine i_yes rfl ?_
            exact bad (.inr ⟨rfl, by unfold clash; rw [g1]; rfl⟩)
          walk_at "go"
          refine i_m1' ?_
          walk_at "go"
          refine ⟨⟨_, rfl⟩, _, rfl, _, _, rfl, rfl, _, rfl, ?_⟩
          refine i_itb (fun g2 => ?_) (fun g2 => ?_)
          · exact bad (.inr ⟨rfl, by unfold clash; rw [g2, Bool.or_true]⟩)
          · exact ⟨s3, ⟨_, _, _, _, rfl⟩, okk hn fun _ => by unfold clash; rw [g1, g2]; rfl⟩
      · rintro σ H3 ⟨s3, ⟨v3, v5, v6, v7, rfl⟩, hp3⟩
        refine ⟨s3, ⟨_, _, _, _, _, rfl⟩, fun m n u v h1 h2 hm hn => ?_⟩
        by_cases q : m < i
        · exact hp2 m n u v h1 q hm hn
        · have e : m = i := by omega
          subst e
          rw [li] at hm
          cases hm
          exact hp3 n v h1 hn
    · rintro σ H2 ⟨s2, ⟨v3, v4, v5, v6, v7, rfl⟩, hp2⟩
      have nd : (l.map (·.n)).Nodup := by
        rw [List.Nodup, List.pairwise_iff_getElem]
        intro i j hi hj lt
        rw [List.length_map] at hi hj
        rw [List.getElem_map, List.getElem_map]
        exact fun e => (hp2 j i _ _ lt (by omega) (List.getElem?_eq_getElem hj) (List.getElem?_eq_getElem hi)).1 e.symm
      have ap : rows = false → Apart (l.map (·.w)) := fun e => apart_iff.mpr fun m n u v lt hm hn => by
        rw [List.getElem?_map] at hm hn
        cases hlm : l[m]? with
        | none => rw [hlm] at hm; cases hm
        | some zm =>
          cases hln : l[n]? with
          | none => rw [hln] at hn; cases hn
          | some zn =>
            rw [hlm] at hm
            rw [hln] at hn
            cases hm
            cases hn
            rw [clash_comm]
            exact (hp2 n m _ _ lt (by have := (List.getElem?_eq_some_iff.mp hln).1; omega) hln hlm).2 e
      have len : 1 ≤ l.length ∧ l.length ≤ (if rows = true then 8 else 12) := ⟨by omega, by omega⟩
      have hG2 := s2 _ _ hG
      walk_at "go"
      cases rows with
      | true =>
        refine i_yes rfl ?_
        obtain ⟨z, q, rest, xz, lz, hq⟩ := at_ (l.length - 1) (by omega)
        walk_at "go"
        have e1 : atI xs ((xs.length : Int) - 1) = some (.ref q) := by
          have e : ((xs.length : Int) - 1) = ((l.length - 1 : Nat) : Int) := by omega
          rw [e]; exact atI_nat xz
        refine i_ixl hG2 e1 ?_
        walk_at "go"
        refine i_ixl (s2 _ _ hq) (atI_nat (j := 0) rfl) ?_
        walk_at "go"
        refine k _ H2 ?_ s2
        have gl : l.getLast? = some z := by rw [List.getLast?_eq_getElem?]; exact lz
        constructor
        · intro h
          have h := V.int.inj (of_decide_eq_true h)
          exact ⟨len, ht1, nd, ap, fun _ => ⟨z, gl, by omega⟩, fun e => by cases e⟩
        · intro h
          obtain ⟨z', g', t'⟩ := h.2.2.2.2.1 rfl
          rw [gl] at g'
          cases g'
          exact decide_eq_true (by rw [t']; rfl)
      | false =>
        refine i_no rfl ?_
        walk_at "go"
        refine lc_filt (ts := l.map (·.t)) (f := fun i => decide (V.int i = V.int 0)) (fun i H Q q => ⟨rfl, q⟩) rfl hG2 (by rw [hl, List.length_map]) (by rw [List.length_map]; exact h100) (fun i v hv => by
          obtain ⟨t, w', n, h1', h2'⟩ := hxt i v hv
          exact ⟨t, w', n, h1', h2'.same s2⟩) (fun _ => rfl) (fun _ => rfl) (fun D2 acc2 H4 nD2 s4 hD2 hacc2 => ?_)
        walk_at "go"
        refine k _ H4 ?_ (s2.trans s4)
        constructor
        · intro h
          have h := of_decide_eq_true h
          refine ⟨len, ht1, nd, ap, (fun e => by cases e), fun _ => Classical.byContradiction fun no => ?_⟩
          have : acc2 = [] := hacc2.mpr fun t ht => by
            obtain ⟨z, hz, rfl⟩ := List.mem_map.mp ht
            exact decide_eq_false fun e => no ⟨z, hz, by have := V.int.inj e; omega⟩
          rw [this] at h; simp at h
        · intro h
          obtain ⟨z, hz, tz⟩ := h.2.2.2.2.2 rfl
          refine decide_eq_true ?_
          cases acc2 with
          | nil =>
            have := hacc2.mp rfl z.t (List.mem_map.mpr ⟨z, hz, rfl⟩)
            rw [tz] at this
            exact absurd this (by decide)
          | cons b r => rw [List.length_cons]; omega
end
end Me
set_option maxHeartbeats 8000000
namespace Me
open PySem L2


/-- the law's list of rows, in the making -/
structure Ents (p P : Addr) (av : List Addr) (H0 H : Hp) (es : List (Addr × Ent)) : Prop where
  w : Went p H0 H
  pP : P ≠ p
  nP : H0 P = none
  l : H P = some (.lst (es.map fun q => V.ref q.1))
  nd : (es.map (·.1)).Nodup
  e : ∀ q ∈ es, H q.1 = some (.lst (entL q.2)) ∧ EntOk H q.2 ∧ H0 q.1 = none ∧ q.1 ≠ p ∧ q.1 ≠ P ∧ q.1 ∉ av
theorem Ents.went {p P : Addr} {av : List Addr} {H0 H H' : Hp} {es : List (Addr × Ent)} (E : Ents p P av H0 H es) (w : Went p H H') : Ents p P av H0 H' es :=
  ⟨E.w.trans w, E.pP, E.nP, w.get E.pP E.l, E.nd, fun q hq => by
    obtain ⟨h1, h2, h3, h4, h5, h6⟩ := E.e q hq
    exact ⟨w.get h4 h1, h2.soft (went_soft E.w.1 w), h3, h4, h5, h6⟩⟩
theorem set_addr {es : List (Addr × Ent)} {i : Nat} {q : Addr} {e e' : Ent} (hi : es[i]? = some (q, e)) : (es.set i (q, e')).map (·.1) = es.map (·.1) := by
  have hil := (List.getElem?_eq_some_iff.mp hi).1
  rw [List.map_set]
  refine List.ext_getElem? fun j => ?_
  rw [List.getElem?_set]
  split
  · rename_i z
    subst z
    rw [List.getElem?_map, hi]
    simp [hil]
  · rfl
theorem went_ne {p b : Addr} {H H' : Hp} (S : StOk H p) (w : Went p H H') (h : H b ≠ none) : H' b ≠ none := by
  cases e : H b with
  | none => exact absurd e h
  | some o =>
    rcases went_soft S w b o e with h | ⟨_, l, _, h⟩ <;> rw [h] <;> intro z <;> cases z
theorem Ents.put {p P : Addr} {av : List Addr} {H0 H : Hp} {es : List (Addr × Ent)} (S : StOk H0 p) (E : Ents p P av H0 H es) {i : Nat} {q : Addr} {e e' : Ent} (hi : es[i]? = some (q, e)) (ok : EntOk H e') : Ents p P av H0 (upd H q (.lst (entL e'))) (es.set i (q, e')) := by
  obtain ⟨hil, hie⟩ := List.getElem?_eq_some_iff.mp hi
  obtain ⟨h1, h2, h3, h4, h5, h6⟩ := E.e (q, e) (List.mem_of_getElem? hi)
  have so : Soft H (upd H q (.lst (entL e'))) := soft_upd h1
  have ad : (es.set i (q, e')).map (·.1) = es.map (·.1) := by
    rw [List.map_set]
    refine List.ext_getElem? fun j => ?_
    rw [List.getElem?_set]
    split
    · rename_i z
      subst z
      rw [List.getElem?_map, hi]
      simp [hil]
    · rfl
  refine ⟨Went.wr S E.w h3 h4, E.pP, E.nP, ?_, by rw [ad]; exact E.nd, fun r hr => ?_⟩
  · rw [upd_ne (fun z => h5 z.symm), E.l]
    have : (es.set i (q, e')).map (fun q => V.ref q.1) = es.map fun q => V.ref q.1 := by
      have := congrArg (List.map V.ref) ad
      rw [List.map_map, List.map_map] at this
      exact this
    rw [this]
  · obtain ⟨j, hj⟩ := List.getElem?_of_mem hr
    rw [List.getElem?_set] at hj
    split at hj
    · rename_i z
      subst z
      cases hj
      exact ⟨upd_same, ok.soft so, h3, h4, h5, h6⟩
    · rename_i z
      have mr := List.mem_of_getElem? hj
      obtain ⟨g1, g2, g3, g4, g5, g6⟩ := E.e r mr
      have ne : r.1 ≠ q := fun e1 => by
        have nd := E.nd
        rw [List.Nodup, List.pairwise_iff_getElem] at nd
        obtain ⟨hjl, hje⟩ := List.getElem?_eq_some_iff.mp hj
        rcases Nat.lt_or_gt_of_ne z with lt | lt
        · have := nd i j (by rw [List.length_map]; exact hil) (by rw [List.length_map]; exact hjl) lt
          rw [List.getElem_map, List.getElem_map, hie, hje] at this
          exact this e1.symm
        · have := nd j i (by rw [List.length_map]; exact hjl) (by rw [List.length_map]; exact hil) lt
          rw [List.getElem_map, List.getElem_map, hie, hje] at this
          exact this e1
      exact ⟨by rw [upd_ne ne]; exact g1, g2.soft so, g3, g4, g5, g6⟩
theorem Ents.fresh {p P q : Addr} {av : List Addr} {H0 H : Hp} {es : List (Addr × Ent)} (E : Ents p P av H0 H es) (n : ∀ r ∈ es, r.1 ≠ q) : q ∉ es.map (·.1) := fun h => by
  obtain ⟨r, hr, e⟩ := List.mem_map.mp h
  exact n r hr e
/-- another row in a row's place -/
theorem Ents.rep {p P : Addr} {av : List Addr} {H0 H : Hp} {es : List (Addr × Ent)} (S : StOk H0 p) (E : Ents p P av H0 H es) {i : Nat} {q : Addr} {e' : Ent} (hi : i < es.length) (hq : H q = some (.lst (entL e'))) (ok : EntOk H e') (n0 : H0 q = none) (qp : q ≠ p) (qP : q ≠ P) (qa : q ∉ av) (qn : ∀ r ∈ es, r.1 ≠ q) :
    Ents p P av H0 (upd H P (.lst ((es.map fun q => V.ref q.1).set i (.ref q)))) (es.set i (q, e')) := by
  have so : Soft H (upd H P (.lst ((es.map fun q => V.ref q.1).set i (.ref q)))) := soft_upd E.l
  refine ⟨Went.wr S E.w E.nP E.pP, E.pP, E.nP, by rw [upd_same, List.map_set], ?_, fun r hr => ?_⟩
  · rw [List.map_set]
    have nd := E.nd
    rw [List.Nodup, List.pairwise_iff_getElem] at nd ⊢
    intro j k hj hk lt
    rw [List.length_set, List.length_map] at hj hk
    rw [List.getElem_set, List.getElem_set]
    have mem : ∀ (m : Nat) (hm : m < es.length), (es.map (·.1))[m]'(by rw [List.length_map]; exact hm) ≠ q := fun m hm => by
      rw [List.getElem_map]
      exact qn _ (List.getElem_mem hm)
    split
    · split
      · omega
      · exact (mem k hk).symm
    · split
      · exact mem j hj
      · exact nd j k (by rw [List.length_map]; exact hj) (by rw [List.length_map]; exact hk) lt
  · rcases List.mem_or_eq_of_mem_set hr with h | h
    · obtain ⟨g1, g2, g3, g4, g5, g6⟩ := E.e r h
      exact ⟨by rw [upd_ne g5]; exact g1, g2.soft so, g3, g4, g5, g6⟩
    · subst h
      exact ⟨by rw [upd_ne qP]; exact hq, ok.soft so, n0, qp, qP, qa⟩
theorem Ents.app {p P : Addr} {av : List Addr} {H0 H : Hp} {es : List (Addr × Ent)} (S : StOk H0 p) (E : Ents p P av H0 H es) {q : Addr} {e' : Ent} (hq : H q = some (.lst (entL e'))) (ok : EntOk H e') (n0 : H0 q = none) (qp : q ≠ p) (qP : q ≠ P) (qa : q ∉ av) (qn : ∀ r ∈ es, r.1 ≠ q) :
    Ents p P av H0 (upd H P (.lst ((es.map fun q => V.ref q.1) ++ [.ref q]))) (es ++ [(q, e')]) := by
  have so : Soft H (upd H P (.lst ((es.map fun q => V.ref q.1) ++ [.ref q]))) := soft_upd E.l
  refine ⟨Went.wr S E.w E.nP E.pP, E.pP, E.nP, by rw [upd_same, List.map_append]; rfl, ?_, fun r hr => ?_⟩
  · rw [List.map_append, List.nodup_append]
    refine ⟨E.nd, by simp, fun x hx y hy => ?_⟩
    obtain ⟨r, hr, rfl⟩ := List.mem_map.mp hx
    rw [show y = q from List.mem_singleton.mp hy]
    exact qn r hr
  · rcases List.mem_append.mp hr with h | h
    · obtain ⟨g1, g2, g3, g4, g5, g6⟩ := E.e r h
      exact ⟨by rw [upd_ne g5]; exact g1, g2.soft so, g3, g4, g5, g6⟩
    · rw [List.mem_singleton.mp h]
      exact ⟨by rw [upd_ne qP]; exact hq, ok.soft so, n0, qp, qP, qa⟩
theorem cutS_take (z : Str) (k : Nat) : (cutS z none (some (k : Int))).cps.toList = z.cps.toList.take k := by
  unfold cutS
  rw [HT.sIx_none, HT.sIx_nat]
  simp only [List.drop_zero, Nat.sub_zero]
  by_cases h : k ≤ z.length
  · rw [Nat.min_eq_left h]
  · rw [Nat.min_eq_right (by omega), List.take_of_length_le (by rw [Array.length_toList]; exact Nat.le_refl _), List.take_of_length_le (by rw [Array.length_toList]; show z.length ≤ k; omega)]
theorem word_cut {z : Str} {k : Nat} (h0 : 1 ≤ z.length) (hb : bitsS z = true) (k0 : 1 ≤ k) (k8 : k ≤ 8) : WordS (cutS z none (some (k : Int))) := by
  have e := cutS_take z k
  have len : (cutS z none (some (k : Int))).length = min k z.length := by
    show (cutS z none (some (k : Int))).cps.size = _
    rw [← Array.length_toList, e, List.length_take, Array.length_toList]; rfl
  refine ⟨by rw [len]; omega, by rw [len]; omega, ?_⟩
  unfold bitsS at *
  rw [e]
  rw [List.all_eq_true] at hb ⊢
  exact fun c hc => hb c (List.mem_of_mem_take hc)
section
variable {P : Program} {w : World} {K : PySem.W.Frag} {mg : Str → Option Value} {base : Heap} {a : Ad}
def spSpoil : Sp := fun vs H Q _ => ∃ (p P : Addr) (H0 : Hp) (av : List Addr) (es : List (Addr × Ent)), vs = [.ref p, .ref P] ∧ StOk H0 p ∧ Ents p P av H0 H es ∧ (∀ b ∈ av, H b ≠ none) ∧ 1 ≤ es.length ∧ es.length ≤ 20 ∧ (∀ q ∈ es, q.2.t ≤ 1) ∧ ∀ es' H', Ents p P av H0 H' es' → es'.length = es.length → Q .non H'
theorem ok_spoil (T : Txt K mg a) : FnOk P w K mg base CX0 3 a._law_spoil.f a._law_spoil.fd ["_law_state", "_law_plain_here"] spSpoil := by
  have G__law_pull : FnOk P w K mg base CX0 1 a._law_pull.f a._law_pull.fd ["_law_state", "_law_many"] spPull := ok_pull T
  have G__law_bits : FnOk P w K mg base CX0 2 a._law_bits.f a._law_bits.fd ["_law_state", "_law_many"] spBitsG := ok_bitsG T
  have G__law_odd : FnOk P w K mg base CX0 2 a._law_odd.f a._law_odd.fd ["_law_state"] spOdd := ok_odd T
  have sc : FnScope ["_law_state", "_law_plain_here", "_law_at", "_law_other", "_law_turn", "_law_entry"] ["_law_state", "_law_plain_here"] (defScope (top 39)) := ⟨rfl, rfl, rfl, by decide +kernel, rfl, by decide +kernel, by decide +kernel⟩
  refine T._law_spoil.ok sc (fun vs H Q E h => ?_) (fun cdv A outer s H vs Q E hr h => ?_)
  · obtain ⟨p, P, H0, av, es, rfl, _⟩ := h
    rfl
  · obtain ⟨p, P, H0, av, es, rfl, S, EN, hav, l1, l20, ht, k⟩ := h
    refine ⟨_, (pss_cons (ps_set (i := 2) sc.nd rfl (by first | exact Or.inl rfl | exact Or.inr rfl) (pe_call G__law_pull (hr.mono (by first | decide | omega)) rfl T._law_pull.mg T._law_pull.kp T._law_pull.b .nil pass0 (pa_cons (pv 0) (pa_cons (pe_callB call_len_seq (by rfl) T.len PySem.boot_len (pa_cons (pv 1) pa_nil)) pa_nil))))
      (pss_cons (ps_set (i := 3) sc.nd rfl (by first | exact Or.inl rfl | exact Or.inr rfl) (pe_call G__law_pull (hr.mono (by first | decide | omega)) rfl T._law_pull.mg T._law_pull.kp T._law_pull.b .nil pass0 (pa_cons (pv 0) (pa_cons (pe_callB call_len_seq (by rfl) T.len PySem.boot_len (pa_cons (pv 1) pa_nil)) pa_nil))))
      (pss_cons (ps_set (i := 4) sc.nd rfl (by first | exact Or.inl rfl | exact Or.inr rfl) (pe_call G__law_pull (hr.mono (by first | decide | omega)) rfl T._law_pull.mg T._law_pull.kp T._law_pull.b .nil pass0 (pa_cons (pv 0) (pa_cons pe_int pa_nil))))
      (pss_one (ps_if (pt_cmpR op_eq (pv 4) pe_int (nomark _))
      (pss_one (ps_asg (pe_ix ix_list (pe_ix ix_list (pv 1) (pv 3) (fun _ _ => rfl)) pe_int (fun _ _ => rfl)) (pg_sub (pe_ix ix_list (pv 1) (pv 2) (fun _ _ => rfl)) pe_int set_list)))
      (pss_one (ps_if (pt_cmpR op_eq (pv 4) pe_int (nomark _))
      (pss_one (ps_asg (pe_slice sl_str (pe_op op_add_str (pe_ix ix_list (pe_ix ix_list (pv 1) (pv 3) (fun _ _ => rfl)) pe_int (fun _ _ => rfl)) (pe_call G__law_bits (hr.mono (by first | decide | omega)) rfl T._law_bits.mg T._law_bits.kp T._law_bits.b .nil pass0 (pa_cons (pv 0) (pa_cons pe_int pa_nil)))) po_none (po_some pe_int)) (pg_sub (pe_ix ix_list (pv 1) (pv 2) (fun _ _ => rfl)) pe_int set_list)))
      (pss_one (ps_if (pt_cmpR op_eq (pv 4) pe_int (nomark _))
      (pss_one (ps_asg (pe_slice sl_str (pe_ix ix_list (pe_ix ix_list (pv 1) (pv 3) (fun _ _ => rfl)) pe_int (fun _ _ => rfl)) po_none (po_some pe_int)) (pg_sub (pe_ix ix_list (pv 1) (pv 2) (fun _ _ => rfl)) pe_int set_list)))
      (pss_one (ps_if (pt_cmpR op_eq (pv 4) pe_int (nomark _))
      (pss_one (ps_asg (pe_lst (pa_cons pe_int (pa_cons pe_str (pa_cons pe_str (pa_cons (pe_call G__law_pull (hr.mono (by first | decide | omega)) rfl T._law_pull.mg T._law_pull.kp T._law_pull.b .nil pass0 (pa_cons (pv 0) (pa_cons pe_int pa_nil))) pa_nil))))) (pg_sub (pv 1) (pv 2) set_list)))
      (pss_one (ps_if (pt_cmpR op_eq (pv 4) pe_int (nomark _))
      (pss_one (ps_asg (pe_lst (pa_cons pe_int (pa_cons pe_str (pa_cons pe_str (pa_cons (pe_call G__law_odd (hr.mono (by first | decide | omega)) rfl T._law_odd.mg T._law_odd.kp T._law_odd.b .nil pass0 (pa_cons (pv 0) pa_nil)) pa_nil))))) (pg_sub (pv 1) (pv 2) set_list)))
      (pss_one (ps_if (pt_cmpR op_eq (pv 4) pe_int (nomark _))
      (pss_one (ps_for PassesOwn.never rfl (pi_list (pv 1)) (pg_name (i := 5) sc.nd rfl (by first | exact Or.inl rfl | exact Or.inr rfl))
      (pss_one (ps_asg pe_int (pg_sub (pv 5) pe_int set_list)))))
      pss_nil))))))))))))))), ?_⟩
    have ll : (es.map fun q => V.ref q.1).length = es.length := List.length_map ..
    have hP := EN.l
    walk_at "go"
    refine ⟨p, _, rfl, EN.w.1, by omega, by omega, fun r1 H1 a0 a1 W1 => ?_⟩
    have E1 := EN.went W1
    have hP1 := E1.l
    walk_at "go"
    refine ⟨p, _, rfl, E1.w.1, by omega, by omega, fun r2 H2 b0 b1 W2 => ?_⟩
    have E2 := E1.went W2
    have hP2 := E2.l
    walk_at "go"
    refine ⟨p, _, rfl, E2.w.1, by decide, by decide, fun r3 H3 c0 c1 W3 => ?_⟩
    have E3 := E2.went W3
    have hP3 := E3.l
    obtain ⟨i, rfl⟩ := Int.eq_ofNat_of_zero_le a0
    obtain ⟨j, rfl⟩ := Int.eq_ofNat_of_zero_le b0
    have hi : i < es.length := by omega
    have hj : j < es.length := by omega
    have gi : es[i]? = some es[i] := List.getElem?_eq_getElem hi
    have gj : es[j]? = some es[j] := List.getElem?_eq_getElem hj
    have mi := List.getElem_mem hi
    have mj := List.getElem_mem hj
    generalize hei : es[i] = ei at gi mi
    generalize hej : es[j] = ej at gj mj
    obtain ⟨qi, ei⟩ := ei
    obtain ⟨qj, ej⟩ := ej
    have ti := ht _ mi
    have tj := ht _ mj
    have eL : ∀ e : Ent, e.t ≤ 1 → entL e = [.int e.t, .str e.w, .str e.n] := fun e h => by unfold entL; rw [if_neg (by omega), if_neg (by omega)]
    have vi : (es.map fun q => V.ref q.1)[i]? = some (.ref qi) := by rw [List.getElem?_map, gi]; rfl
    have vj : (es.map fun q => V.ref q.1)[j]? = some (.ref qj) := by rw [List.getElem?_map, gj]; rfl
    have hqi : H3 qi = some (.lst [.int ei.t, .str ei.w, .str ei.n]) := by rw [← eL _ ti]; exact (E3.e _ mi).1
    have hqj : H3 qj = some (.lst [.int ej.t, .str ej.w, .str ej.n]) := by rw [← eL _ tj]; exact (E3.e _ mj).1
    have pli := (E3.e _ mi).2.1.plain ti
    have plj := (E3.e _ mj).2.1.plain tj
    have done1 : ∀ H' (E' : Ents p P av H0 H' es) (e' : Ent), e'.t ≤ 1 → WordS e'.w → nameS e'.n = true → Q .non (upd H' qi (.lst [.int e'.t, .str e'.w, .str e'.n])) := fun H' E' e' t1 hw hn => by
      have := E'.put S gi (e' := e') ⟨by omega, fun _ => ⟨hw, hn⟩, fun z => by omega, fun z => by omega⟩
      rw [eL _ t1] at this
      exact k _ _ this (by rw [List.length_set])
    have qi4 : qi ≠ p := (E3.e _ mi).2.2.2.1
    have S3 := E3.w.1
    have av3 : ∀ b ∈ av, H3 b ≠ none := fun b hb => went_ne E2.w.1 W3 (went_ne E1.w.1 W2 (went_ne EN.w.1 W1 (hav b hb)))
    walk_at "go"
    refine i_itei (fun h0 => ?_) (fun _ => ?_)
    · walk_at "go"
      refine i_ixl hP3 (atI_nat vj) ?_
      walk_at "go"
      refine i_ixl hP3 (atI_nat vi) ?_
      walk_at "go"
      exact done1 H3 E3 { ei with n := ej.n } ti pli.1 plj.2
    walk_at "go"
    refine i_itei (fun h0 => ?_) (fun _ => ?_)
    · walk_at "go"
      show tOp _ _ _ _ _ _
      walk_at "go"
      refine i_ixl hP3 (atI_nat vj) ?_
      walk_at "go"
      refine ⟨p, 2, rfl, S3, by decide, by decide, fun z H4 hz hb W4 => ?_⟩
      have E4 := E3.went W4
      have hqi4 := W4.get qi4 hqi
      have hz2 : z.length = 2 := hz
      have l8 : ej.w.length ≤ 8 := plj.1.l8
      have l0 : 1 ≤ ej.w.length := plj.1.l0
      refine ⟨_, _, rfl, rfl, Nat.le_trans (show ej.w.length + z.length ≤ 20 by omega) (by decide), ?_⟩
      refine ⟨8, rfl, _, rfl, Nat.le_trans (show (ej.w ++ z).length ≤ 20 by rw [len_add]; omega) (by decide), ?_⟩
      walk_at "go"
      refine i_ixl E4.l (atI_nat vi) ?_
      walk_at "go"
      exact done1 H4 E4 { ei with w := cutS (ej.w ++ z) none (some ((8 : Nat) : Int)) } ti (word_cut (by rw [len_add]; omega) (bits_add plj.1.b hb) (by decide) (by decide)) pli.2
    walk_at "go"
    refine i_itei (fun h0 => ?_) (fun _ => ?_)
    · walk_at "go"
      show tOp _ _ _ _ _ _
      walk_at "go"
      refine i_ixl hP3 (atI_nat vj) ?_
      walk_at "go"
      refine ⟨1, rfl, _, rfl, Nat.le_trans plj.1.l8 (by decide), ?_⟩
      walk_at "go"
      refine i_ixl hP3 (atI_nat vi) ?_
      walk_at "go"
      exact done1 H3 E3 { ei with w := cutS ej.w none (some ((1 : Nat) : Int)) } ti (word_cut plj.1.l0 plj.1.b (by decide) (by decide)) pli.2
    walk_at "go"
    refine i_itei (fun h0 => ?_) (fun _ => ?_)
    · walk_at "go"
      refine ⟨p, _, rfl, S3, by decide, by decide, fun r4 H4 d0 d1 W4 => ?_⟩
      have E4 := E3.went W4
      walk_at "go"
      rename_i q nq
      have Wq : Went p H4 (upd H4 q (.lst [.int 2, .str "0", .str "a", .int r4])) := (Went.rfl' W4.1).new nq
      have E5 := E4.went Wq
      have qp : q ≠ p := W4.1.ne nq
      have n0 : H0 q = none := E4.w.none nq qp
      have qP : q ≠ P := fun z => by rw [z, E4.l] at nq; cases nq
      have ok5 : EntOk (upd H4 q (.lst [.int 2, .str "0", .str "a", .int r4])) ⟨2, "0", "a", r4, .non⟩ := ⟨(by show 2 ≤ 3; decide), (fun z => absurd z (by show ¬ 2 ≤ 1; decide)), (fun _ => ⟨d0, by show r4 ≤ 10; omega, rfl, rfl⟩), (fun z => absurd z (by show ¬ 2 = 3; decide))⟩
      have fin := E5.rep S hi upd_same ok5 n0 qp qP (fun z => went_ne S3 W4 (av3 q z) nq) (fun r hr z => by rw [← z, (E4.e r hr).1] at nq; cases nq)
      refine i_setl E5.l (j := i) (by unfold ixN; rw [if_pos (by omega), if_pos (by omega)]; simp) ?_
      exact k _ _ fin (by rw [List.length_set])
    walk_at "go"
    refine i_itei (fun h0 => ?_) (fun _ => ?_)
    · walk_at "go"
      refine ⟨p, rfl, S3, fun v H4 od W4 => ?_⟩
      have E4 := E3.went W4
      walk_at "go"
      rename_i q nq
      have Wq : Went p H4 (upd H4 q (.lst [.int 3, .str "0", .str "a", v])) := (Went.rfl' W4.1).new nq
      have E5 := E4.went Wq
      have qp : q ≠ p := W4.1.ne nq
      have n0 : H0 q = none := E4.w.none nq qp
      have qP : q ≠ P := fun z => by rw [z, E4.l] at nq; cases nq
      have ok5 : EntOk (upd H4 q (.lst [.int 3, .str "0", .str "a", v])) ⟨3, "0", "a", 0, v⟩ := ⟨(by show 3 ≤ 3; decide), (fun z => absurd z (by show ¬ 3 ≤ 1; decide)), (fun z => absurd z (by show ¬ 3 = 2; decide)), (fun _ => ⟨od.th.soft (went_soft W4.1 Wq), rfl, rfl⟩)⟩
      have fin := E5.rep S hi upd_same ok5 n0 qp qP (fun z => went_ne S3 W4 (av3 q z) nq) (fun r hr z => by rw [← z, (E4.e r hr).1] at nq; cases nq)
      refine i_setl E5.l (j := i) (by unfold ixN; rw [if_pos (by omega), if_pos (by omega)]; simp) ?_
      exact k _ _ fin (by rw [List.length_set])
    walk_at "go"
    refine i_itei (fun h0 => ?_) (fun _ => ?_)
    · walk_at "go"
      refine ⟨.ref P, rfl, P, rfl, ⟨_, SqL.of hP3⟩, ?_⟩
      refine for_list (xs := es.map fun q => V.ref q.1) (fun m σ H' => (∃ v5, σ = [some (.ref p), some (.ref P), some (.int i), some (.int j), some (.int 5), v5]) ∧ ∃ es', Ents p P av H0 H' es' ∧ es'.length = es.length ∧ es'.map (·.1) = es.map (·.1) ∧ ∀ q ∈ es', q.2.t ≤ 1)
        ⟨⟨_, by rw [h0]; rfl⟩, es, E3, rfl, rfl, ht⟩ ?_ ?_ ?_
      · rintro m σ H4 _ ⟨_, es', E', _, ea, _⟩
        have := E'.l
        have e2 := congrArg (List.map V.ref) ea
        rw [List.map_map, List.map_map] at e2
        have e3 : (es'.map fun q => V.ref q.1) = es.map fun q => V.ref q.1 := e2
        rw [e3] at this
        exact SqL.of this
      · rintro m x σ H4 hx ⟨⟨v5, rfl⟩, es', E', el, ea, et⟩
        have e2 := congrArg (List.map V.ref) ea
        rw [List.map_map, List.map_map] at e2
        have e3 : (es'.map fun q => V.ref q.1) = es.map fun q => V.ref q.1 := e2
        rw [← e3, List.getElem?_map] at hx
        cases hm : es'[m]? with
        | none => rw [hm] at hx; cases hx
        | some qe =>
          obtain ⟨q, e⟩ := qe
          rw [hm] at hx
          cases hx
          have me := List.mem_of_getElem? hm
          have te := et _ me
          have hq : H4 q = some (.lst [.int e.t, .str e.w, .str e.n]) := by rw [← eL _ te]; exact (E'.e _ me).1
          have ple := (E'.e _ me).2.1.plain te
          walk_at "go"
          have := E'.put S hm (e' := { e with t := 1 }) ⟨(by show 1 ≤ 3; decide), fun _ => ple, (fun z => absurd z (by show ¬ 1 = 2; decide)), (fun z => absurd z (by show ¬ 1 = 3; decide))⟩
          rw [eL _ (by show 1 ≤ 1; decide)] at this
          refine ⟨⟨_, rfl⟩, es'.set m (q, { e with t := 1 }), this, by rw [List.length_set, el], by rw [set_addr hm, ea], fun r hr => ?_⟩
          rcases List.mem_or_eq_of_mem_set hr with h | h
          · exact et r h
          · rw [h]; exact Nat.le_refl 1
      · rintro σ H4 ⟨_, es', E', el, _, _⟩
        exact k es' H4 E' el
    · walk_at "go"
      exact k es H3 E3 rfl
end
end Me
set_option maxHeartbeats 8000000
namespace Me
open PySem L2


theorem Ents.weak {p P : Addr} {av : List Addr} {H0 H : Hp} {es : List (Addr × Ent)} (E : Ents p P av H0 H es) : Ents p P [] H0 H es :=
  ⟨E.w, E.pP, E.nP, E.l, E.nd, fun q hq => by
    obtain ⟨h1, h2, h3, h4, h5, h6⟩ := E.e q hq
    exact ⟨h1, h2, h3, h4, h5, by simp⟩⟩
theorem Ents.went2 {p P t : Addr} {av : List Addr} {H0 H H' : Hp} {es : List (Addr × Ent)} {l l' : List V} (S : StOk H0 p) (E : Ents p P av H0 H es) (ta : t ∈ av) (n0 : H0 t = none) (tP : t ≠ P) (ht : H t = some (.lst l)) (ht' : H' t = some (.lst l')) (w : Went2 p t H H') (hs : ∀ L, StAt H p L → StAt H' p L) : Ents p P av H0 H' es := by
  have so : Soft H H' := fun b o e => by
    by_cases q : b = t
    · subst q; rw [ht] at e; cases e; exact .inr ⟨_, _, rfl, ht'⟩
    · by_cases q2 : b = p
      · subst q2
        obtain ⟨L, ns, i, x, c, e1, _⟩ := E.w.1
        obtain ⟨L2, ns2, i2, x2, c2, e2, _⟩ := w.1
        rw [e1] at e; cases e
        exact .inr ⟨_, _, rfl, e2⟩
      · exact .inl (w.2 b o q2 q e)
  refine ⟨⟨w.1, fun b o nb e => w.2 b o nb (ne_of_none e n0) (E.w.2.1 b o nb e), fun L h => hs L (E.w.2.2 L h)⟩, E.pP, E.nP, w.2 _ _ E.pP tP.symm E.l, E.nd, fun q hq => ?_⟩
  obtain ⟨h1, h2, h3, h4, h5, h6⟩ := E.e q hq
  exact ⟨w.2 _ _ h4 (fun e => h6 (e ▸ ta)) h1, h2.soft so, h3, h4, h5, h6⟩
section
variable {P : Program} {w : World} {K : PySem.W.Frag} {mg : Str → Option Value} {base : Heap} {a : Ad}
def spRows : Sp := fun vs H Q _ => ∃ (p : Addr) (rows : Bool), vs = [.ref p, .bl rows] ∧ StOk H p ∧ ∀ P es H', Ents p P [] H H' es → es.length ≤ 13 → Q (.ref P) H'
theorem ok_rows (T : Txt K mg a) : FnOk P w K mg base CX0 4 a._law_rows.f a._law_rows.fd ["_law_state", "_law_rows_here"] spRows := by
  have G__law_pull : FnOk P w K mg base CX0 1 a._law_pull.f a._law_pull.fd ["_law_state", "_law_many"] spPull := ok_pull T
  have G__law_bits : FnOk P w K mg base CX0 2 a._law_bits.f a._law_bits.fd ["_law_state", "_law_many"] spBitsG := ok_bitsG T
  have G__law_words : FnOk P w K mg base CX0 2 a._law_words.f a._law_words.fd ["_law_state", "_law_many"] spWordsG := ok_wordsG T
  have G__law_name : FnOk P w K mg base CX0 2 a._law_name.f a._law_name.fd ["_law_state", "_law_taken"] spName := ok_name T
  have G__law_spoil : FnOk P w K mg base CX0 3 a._law_spoil.f a._law_spoil.fd ["_law_state", "_law_plain_here"] spSpoil := ok_spoil T
  have sc : FnScope ["_law_state", "_law_rows_here", "_law_plain_here", "_law_taken", "_law_many", "_law_words_here", "_law_k", "_law_word", "_law_name_here"] ["_law_state", "_law_rows_here"] (defScope (top 38)) := ⟨rfl, rfl, rfl, by decide +kernel, rfl, by decide +kernel, by decide +kernel⟩
  refine T._law_rows.ok sc (fun vs H Q E h => ?_) (fun cdv A outer s H vs Q E hr h => ?_)
  · obtain ⟨p, rows, rfl, _⟩ := h
    rfl
  · obtain ⟨p, rows, rfl, S, k⟩ := h
    refine ⟨_, (pss_cons (ps_set (i := 2) sc.nd rfl (by first | exact Or.inl rfl | exact Or.inr rfl) (pe_lst pa_nil))
      (pss_cons (ps_set (i := 3) sc.nd rfl (by first | exact Or.inl rfl | exact Or.inr rfl) (pe_lst pa_nil))
      (pss_cons (ps_set (i := 4) sc.nd rfl (by first | exact Or.inl rfl | exact Or.inr rfl) (pe_ix ix_list (pe_lst (pa_cons pe_int (pa_cons pe_int (pa_cons pe_int (pa_cons pe_int (pa_cons pe_int (pa_cons pe_int (pa_cons pe_int (pa_cons pe_int (pa_cons pe_int (pa_cons pe_int (pa_cons pe_int (pa_cons pe_int pa_nil))))))))))))) (pe_call G__law_pull (hr.mono (by first | decide | omega)) rfl T._law_pull.mg T._law_pull.kp T._law_pull.b .nil pass0 (pa_cons (pv 0) (pa_cons pe_int pa_nil))) (fun _ _ => rfl)))
      (pss_cons (ps_set (i := 5) sc.nd rfl (by first | exact Or.inl rfl | exact Or.inr rfl) (pe_call G__law_words (hr.mono (by first | decide | omega)) rfl T._law_words.mg T._law_words.kp T._law_words.b .nil pass0 (pa_cons (pv 0) (pa_cons (pe_callB (call_max2 rfl) (by rfl) T.max (by decide +kernel) (pa_cons pe_int (pa_cons (pv 4) pa_nil))) pa_nil))))
      (pss_cons (ps_for PassesOwn.never rfl (pi_range1 rfl T.range (pa_cons (pv 4) pa_nil)) (pg_name (i := 6) sc.nd rfl (by first | exact Or.inl rfl | exact Or.inr rfl))
      (pss_cons (ps_set (i := 7) sc.nd rfl (by first | exact Or.inl rfl | exact Or.inr rfl) (pe_ix ix_list (pv 5) (pv 6) (fun _ _ => rfl)))
      (pss_cons (ps_set (i := 8) sc.nd rfl (by first | exact Or.inl rfl | exact Or.inr rfl) (pe_call G__law_name (hr.mono (by first | decide | omega)) rfl T._law_name.mg T._law_name.kp T._law_name.b .nil pass0 (pa_cons (pv 0) (pa_cons (pv 3) pa_nil))))
      (pss_cons (ps_if (pt_val (pv 1))
      (pss_one (ps_set (i := 7) sc.nd rfl (by first | exact Or.inl rfl | exact Or.inr rfl) (pe_call G__law_bits (hr.mono (by first | decide | omega)) rfl T._law_bits.mg T._law_bits.kp T._law_bits.b .nil pass0 (pa_cons (pv 0) (pa_cons (pe_op op_add pe_int (pe_call G__law_pull (hr.mono (by first | decide | omega)) rfl T._law_pull.mg T._law_pull.kp T._law_pull.b .nil pass0 (pa_cons (pv 0) (pa_cons pe_int pa_nil)))) pa_nil)))))
      pss_nil)
      (pss_one (ps_expr (pe_bm PySem.F.plainAttrs_list PySem.F.slot_list_append PySem.F.type_list_append mt_append (pv 2) (pa_cons (pe_lst (pa_cons (pe_call G__law_pull (hr.mono (by first | decide | omega)) rfl T._law_pull.mg T._law_pull.kp T._law_pull.b .nil pass0 (pa_cons (pv 0) (pa_cons pe_int pa_nil))) (pa_cons (pv 7) (pa_cons (pv 8) pa_nil)))) pa_nil))))))))
      (pss_cons (ps_if (PW.pt (pw_and (pt_cmpR op_gt (pv 4) pe_int (nomark _)) (pw_and1 (pt_cmpR op_gt (pe_call G__law_pull (hr.mono (by first | decide | omega)) rfl T._law_pull.mg T._law_pull.kp T._law_pull.b .nil pass0 (pa_cons (pv 0) (pa_cons pe_int pa_nil))) pe_int (nomark _)))))
      (pss_one (ps_asg pe_int (pg_sub (pe_ix ix_list (pv 2) (pe_op op_sub (pv 4) pe_int) (fun _ _ => rfl)) pe_int set_list)))
      pss_nil)
      (pss_cons (ps_if (pt_cmpR op_gt (pv 4) pe_int (nomark _))
      (pss_one (ps_expr (pe_call G__law_spoil (hr.mono (by first | decide | omega)) rfl T._law_spoil.mg T._law_spoil.kp T._law_spoil.b .nil pass0 (pa_cons (pv 0) (pa_cons (pv 2) pa_nil)))))
      pss_nil)
      (pss_one (ps_ret (pv 2)))))))))), ?_⟩
    walk_at "go"
    rename_i P nP t nt n nn
    have hP1 := upd_same (H := H) (a := P) (o := .lst [])
    have W1 : Went p H (upd H P (.lst [])) := (Went.rfl' S).new nP
    generalize upd H P (.lst []) = H1 at nt nn hP1 W1 ⊢
    have tP : t ≠ P := fun e => by rw [e, hP1] at nt; cases nt
    have ht2 := upd_same (H := H1) (a := t) (o := .lst [])
    have W2 : Went p H (upd H1 t (.lst [])) := W1.new nt
    have hP2 : upd H1 t (.lst []) P = some (.lst []) := by rw [upd_ne tP.symm]; exact hP1
    have tp : t ≠ p := W1.1.ne nt
    have nt0 : H t = none := W1.none nt tp
    have pP : P ≠ p := S.ne nP
    generalize upd H1 t (.lst []) = H2 at nn ht2 W2 hP2 ⊢
    have W3 := W2.new (o := .lst [.int 1, .int 2, .int 3, .int 4, .int 1, .int 2, .int 3, .int 8, .int 9, .int 12, .int 13, .int 0]) nn
    have s3 : Same H2 (upd H2 n (.lst [.int 1, .int 2, .int 3, .int 4, .int 1, .int 2, .int 3, .int 8, .int 9, .int 12, .int 13, .int 0])) := same_new same_rfl nn
    have hn3 := upd_same (H := H2) (a := n) (o := .lst [.int 1, .int 2, .int 3, .int 4, .int 1, .int 2, .int 3, .int 8, .int 9, .int 12, .int 13, .int 0])
    have np : n ≠ p := W2.1.ne nn
    generalize upd H2 n (.lst [.int 1, .int 2, .int 3, .int 4, .int 1, .int 2, .int 3, .int 8, .int 9, .int 12, .int 13, .int 0]) = H3 at W3 s3 hn3 ⊢
    refine ⟨p, _, rfl, W3.1, by decide, by decide, fun r H4 r0 r1 W4 => ?_⟩
    walk_at "go"
    obtain ⟨m, hm, hm0, hm1⟩ : ∃ m : Int, atI [V.int 1, .int 2, .int 3, .int 4, .int 1, .int 2, .int 3, .int 8, .int 9, .int 12, .int 13, .int 0] r = some (.int m) ∧ 0 ≤ m ∧ m ≤ 13 := by
      have : r = 0 ∨ r = 1 ∨ r = 2 ∨ r = 3 ∨ r = 4 ∨ r = 5 ∨ r = 6 ∨ r = 7 ∨ r = 8 ∨ r = 9 ∨ r = 10 ∨ r = 11 := by omega
      rcases this with rfl | rfl | rfl | rfl | rfl | rfl | rfl | rfl | rfl | rfl | rfl | rfl
      all_goals exact ⟨_, rfl, by decide, by decide⟩
    refine i_ixl (W4.get np hn3) hm ?_
    walk_at "go"
    refine ⟨1, m, rfl, ?_⟩
    have mx : 1 ≤ (if m > 1 then m else 1) ∧ (if m > 1 then m else 1) ≤ 13 ∧ m.toNat ≤ (if m > 1 then m else 1).toNat := by split <;> omega
    generalize (if m > 1 then m else 1) = mm at mx ⊢
    walk_at "go"
    have W34 := W3.trans W4
    refine ⟨p, mm, rfl, W34.1, mx.1, mx.2.1, fun D ws H5 nD hD hwl hw W5 => ?_⟩
    have hP4 := W4.get pP (s3 _ _ hP2)
    have ht4 := W4.get tp (s3 _ _ ht2)
    have hP5 := W5.get pP hP4
    have ht5 := W5.get tp ht4
    have Dp : D ≠ p := W34.1.ne nD
    have nD0 : H D = none := W34.none nD Dp
    have DP : D ≠ P := fun e => by rw [e, hP4] at nD; cases nD
    have Dt : D ≠ t := fun e => by rw [e, ht4] at nD; cases nD
    have W35 := W34.trans W5
    have tL : ∀ H', Went p H H' → ∀ L, StAt H' p L → t ≠ L := fun H' W' L hL => by
      obtain ⟨L0, h0⟩ := S
      have e := (W'.2.2 L0 h0).uniq hL
      obtain ⟨ns, _, _, _, _, e2, _⟩ := h0
      rw [← e]
      exact fun z => by rw [z, e2] at nt0; cases nt0
    have hav : ∀ (H' : Hp) {l1 l2 : List V}, H' t = some (.lst l1) → H' D = some (.lst l2) → ∀ b ∈ [t, D], H' b ≠ none := fun H' l1 l2 h1 h2 b hb => by
      simp only [List.mem_cons, List.not_mem_nil, or_false] at hb
      rcases hb with rfl | rfl
      · rw [h1]; intro z; cases z
      · rw [h2]; intro z; cases z
    walk_at "go"
    refine ⟨_, rfl, m, rfl, by omega, by omega, for_range (n := m.toNat) (fun i σ H' => ∃ (v6 v7 v8 : Option V), σ = [some (.ref p), some (.bl rows), some (.ref P), some (.ref t), some (.int m), some (.ref D), v6, v7, v8] ∧ ∃ es ts, Ents p P [t, D] H H' es ∧ es.length = i ∧ (∀ q ∈ es, q.2.t ≤ 1) ∧ H' t = some (.lst (ts.map V.str)) ∧ ts.length = i ∧ H' D = some (.lst (ws.map V.str)))
      ⟨_, _, _, rfl, [], [], ⟨W35, pP, nP, hP5, List.nodup_nil, fun q hq => by cases hq⟩, rfl, (fun q hq => by cases hq), ht5, rfl, hD⟩ ?_ ?_⟩
    · rintro i σ H6 hi ⟨v6, v7, v8, rfl, es, ts, E6, el, et, ht6, tl, hD6⟩
      rw [Int.zero_add]
      walk_at "go"
      have hi2 : i < ws.length := by omega
      have hwi : WordS ws[i] := hw _ (List.getElem_mem hi2)
      refine i_ixl hD6 (v := .str ws[i]) (atI_nat (by rw [List.getElem?_map, List.getElem?_eq_getElem hi2]; rfl)) ?_
      generalize ws[i] = wi at hwi ⊢
      walk_at "go"
      refine ⟨p, t, ts, rfl, E6.w.1, ht6, tp, by omega, tL H6 E6.w, fun z H7 hz W7 ht7 hs7 => ?_⟩
      have E7 := E6.went2 S List.mem_cons_self nt0 tP ht6 ht7 W7 hs7
      have hD7 := W7.2 _ _ Dp Dt hD6
      walk_at "go"
      cases rows with
      | true =>
          refine i_yes rfl ?_
          walk_at "go"
          refine ⟨p, _, rfl, E7.w.1, by decide, by decide, fun r8 H8 d0 d1 W8 => ?_⟩
          walk_at "go"
          refine ⟨p, _, rfl, W8.1, by omega, by omega, fun y H5 hy1 hy2 W9 => ?_⟩
          have E5 := (E7.went W8).went W9
          have ht5 := W9.get tp (W8.get tp ht7)
          have hD5 := W9.get Dp (W8.get Dp hD7)
          have hy : WordS y := ⟨by rw [hy1]; omega, by rw [hy1]; omega, hy2⟩
          · skip
            walk_at "go"
            refine ⟨.ref P, rfl, .inl ⟨rfl, _, SqL.of E5.l⟩, ?_⟩
            walk_at "go"
            refine ⟨p, _, rfl, E5.w.1, by decide, by decide, fun r6 H6 c0 c1 W6 => ?_⟩
            walk_at "go"
            rename_i q nq
            have E6 := E5.went W6
            have Wq : Went p H6 (upd H6 q (.lst [.int r6, .str y, .str z])) := (Went.rfl' W6.1).new nq
            have E7 := E6.went Wq
            have qp : q ≠ p := W6.1.ne nq
            have n0 : H q = none := E6.w.none nq qp
            have qP : q ≠ P := fun e => by rw [e, E6.l] at nq; cases nq
            have ht6 := W6.get tp ht5
            have hD6 := W6.get Dp hD5
            have qt : q ≠ t := fun e => by rw [e, ht6] at nq; cases nq
            have qD : q ≠ D := fun e => by rw [e, hD6] at nq; cases nq
            obtain ⟨n6, rfl⟩ := Int.eq_ofNat_of_zero_le c0
            have n61 : n6 ≤ 1 := by omega
            have ok7 : EntOk (upd H6 q (.lst [.int (n6 : Int), .str y, .str z])) ⟨n6, y, z, 0, .non⟩ := ⟨(by show n6 ≤ 3; omega), fun _ => ⟨hy, hz⟩, (fun e => absurd e (by show ¬ n6 = 2; omega)), (fun e => absurd e (by show ¬ n6 = 3; omega))⟩
            have eL7 : entL ⟨n6, y, z, 0, .non⟩ = [.int (n6 : Int), .str y, .str z] := by unfold entL; rw [if_neg (by show ¬ n6 = 2; omega), if_neg (by show ¬ n6 = 3; omega)]
            have fin := E7.app S (e' := ⟨n6, y, z, 0, .non⟩) (by rw [upd_same, eL7]) ok7 n0 qp qP (by simp [qt, qD]) (fun r hr e => by rw [← e, (E6.e r hr).1] at nq; cases nq)
            refine ⟨P, _, _, rfl, rfl, E7.l, by rw [List.length_map, el]; exact Nat.lt_of_le_of_lt (by omega : i ≤ 13) (by decide), ?_⟩
            refine ⟨_, _, _, rfl, es ++ [(q, ⟨n6, y, z, 0, .non⟩)], ts ++ [z], fin, by rw [List.length_append, el]; rfl, ?_, ?_, by rw [List.length_append, tl]; rfl, ?_⟩
            · intro r hr
              rcases List.mem_append.mp hr with h | h
              · exact et r h
              · rw [List.mem_singleton.mp h]; exact n61
            · rw [upd_ne tP, upd_ne qt.symm]; exact ht6
            · rw [upd_ne DP, upd_ne qD.symm]; exact hD6
      | false =>
          refine i_no rfl ?_
          have E5 := E7
          have ht5 := ht7
          have hD5 := hD7
          have hy := hwi
          generalize wi = y at hy ⊢
          · skip
            walk_at "go"
            refine ⟨.ref P, rfl, .inl ⟨rfl, _, SqL.of E5.l⟩, ?_⟩
            walk_at "go"
            refine ⟨p, _, rfl, E5.w.1, by decide, by decide, fun r6 H6 c0 c1 W6 => ?_⟩
            walk_at "go"
            rename_i q nq
            have E6 := E5.went W6
            have Wq : Went p H6 (upd H6 q (.lst [.int r6, .str y, .str z])) := (Went.rfl' W6.1).new nq
            have E7 := E6.went Wq
            have qp : q ≠ p := W6.1.ne nq
            have n0 : H q = none := E6.w.none nq qp
            have qP : q ≠ P := fun e => by rw [e, E6.l] at nq; cases nq
            have ht6 := W6.get tp ht5
            have hD6 := W6.get Dp hD5
            have qt : q ≠ t := fun e => by rw [e, ht6] at nq; cases nq
            have qD : q ≠ D := fun e => by rw [e, hD6] at nq; cases nq
            obtain ⟨n6, rfl⟩ := Int.eq_ofNat_of_zero_le c0
            have n61 : n6 ≤ 1 := by omega
            have ok7 : EntOk (upd H6 q (.lst [.int (n6 : Int), .str y, .str z])) ⟨n6, y, z, 0, .non⟩ := ⟨(by show n6 ≤ 3; omega), fun _ => ⟨hy, hz⟩, (fun e => absurd e (by show ¬ n6 = 2; omega)), (fun e => absurd e (by show ¬ n6 = 3; omega))⟩
            have eL7 : entL ⟨n6, y, z, 0, .non⟩ = [.int (n6 : Int), .str y, .str z] := by unfold entL; rw [if_neg (by show ¬ n6 = 2; omega), if_neg (by show ¬ n6 = 3; omega)]
            have fin := E7.app S (e' := ⟨n6, y, z, 0, .non⟩) (by rw [upd_same, eL7]) ok7 n0 qp qP (by simp [qt, qD]) (fun r hr e => by rw [← e, (E6.e r hr).1] at nq; cases nq)
            refine ⟨P, _, _, rfl, rfl, E7.l, by rw [List.length_map, el]; exact Nat.lt_of_le_of_lt (by omega : i ≤ 13) (by decide), ?_⟩
            refine ⟨_, _, _, rfl, es ++ [(q, ⟨n6, y, z, 0, .non⟩)], ts ++ [z], fin, by rw [List.length_append, el]; rfl, ?_, ?_, by rw [List.length_append, tl]; rfl, ?_⟩
            · intro r hr
              rcases List.mem_append.mp hr with h | h
              · exact et r h
              · rw [List.mem_singleton.mp h]; exact n61
            · rw [upd_ne tP, upd_ne qt.symm]; exact ht6
            · rw [upd_ne DP, upd_ne qD.symm]; exact hD6
    · rintro σ H6 ⟨v6, v7, v8, rfl, es, ts, E6, el, et, ht6, tl, hD6⟩
      walk_at "go"
      refine i_itd (fun h1 => ?_) (fun h1 => ?_)
      · walk_at "go"
        refine ⟨p, _, rfl, E6.w.1, by decide, by decide, fun r8 H5 d0 d1 W8 => ?_⟩
        have E8 := E6.went W8
        have ht5 := W8.get tp ht6
        have hD5 := W8.get Dp hD6
        walk_at "go"
        refine i_itd (fun h2 => ?_) (fun h2 => ?_)
        · walk_at "go"
          obtain ⟨m1, e1⟩ := Int.eq_ofNat_of_zero_le (show 0 ≤ m - 1 by omega)
          have hm1 : m1 < es.length := by omega
          have gi : es[m1]? = some es[m1] := List.getElem?_eq_getElem hm1
          have mi := List.getElem_mem hm1
          generalize es[m1] = ei at gi mi
          obtain ⟨qi, ei⟩ := ei
          have ti := et _ mi
          have eL : ∀ e : Ent, e.t ≤ 1 → entL e = [.int e.t, .str e.w, .str e.n] := fun e h => by unfold entL; rw [if_neg (by omega), if_neg (by omega)]
          have hqi : H5 qi = some (.lst [.int ei.t, .str ei.w, .str ei.n]) := by rw [← eL _ ti]; exact (E8.e _ mi).1
          have pli := (E8.e _ mi).2.1.plain ti
          have av8 := hav H5 ht5 hD5
          have qav := (E8.e _ mi).2.2.2.2.2
          have qt : t ≠ qi := fun e => qav (by rw [← e]; simp)
          have qD : D ≠ qi := fun e => qav (by rw [← e]; simp)
          rw [e1]
          refine i_ixl E8.l (atI_nat (by rw [List.getElem?_map, gi]; rfl)) ?_
          walk_at "go"
          have E5 := E8.put S gi (e' := { ei with t := 0 }) ⟨Nat.zero_le _, fun _ => pli, (fun e => by cases e), (fun e => by cases e)⟩
          rw [eL _ (Nat.zero_le _)] at E5
          have et5 : ∀ q ∈ es.set m1 (qi, { ei with t := 0 }), q.2.t ≤ 1 := fun q hq => by
            rcases List.mem_or_eq_of_mem_set hq with h | h
            · exact et q h
            · rw [h]; exact Nat.zero_le _
          have l5 : (es.set m1 (qi, { ei with t := 0 })).length = es.length := List.length_set ..
          have ht5 : upd H5 qi (.lst [.int ((0 : Nat) : Int), .str ei.w, .str ei.n]) t = some (.lst (ts.map V.str)) := by rw [upd_ne qt]; exact ht5
          have hD5 : upd H5 qi (.lst [.int ((0 : Nat) : Int), .str ei.w, .str ei.n]) D = some (.lst (ws.map V.str)) := by rw [upd_ne qD]; exact hD5
          generalize hes5 : es.set m1 (qi, { ei with t := 0 }) = es5 at E5 et5 l5
          have E5 : Ents p P [t, D] H (upd H5 qi (.lst [.int ((0 : Nat) : Int), .str ei.w, .str ei.n])) es5 := E5
          walk_at "go"
          refine i_itd (fun h7 => ?_) (fun h7 => ?_)
          · walk_at "go"
            refine ⟨p, P, H, [t, D], es5, rfl, S, E5, hav _ ht5 hD5, by omega, by omega, et5, fun es' H6 E6 el6 => ?_⟩
            walk_at "go"
            exact k P es' H6 E6.weak (by omega)
          · walk_at "go"
            exact k P es5 _ E5.weak (by omega)
        · have E5 := E8
          have et5 := et
          have l5 : es.length = m.toNat := el
          generalize hes5 : es = es5 at E5 et5 l5
          walk_at "go"
          refine i_itd (fun h7 => ?_) (fun h7 => ?_)
          · walk_at "go"
            refine ⟨p, P, H, [t, D], es5, rfl, S, E5, hav _ ht5 hD5, by omega, by omega, et5, fun es' H6 E6 el6 => ?_⟩
            walk_at "go"
            exact k P es' H6 E6.weak (by omega)
          · walk_at "go"
            exact k P es5 _ E5.weak (by omega)
      · have E5 := E6
        have et5 := et
        have ht5 := ht6
        have hD5 := hD6
        have l5 : es.length = m.toNat := el
        generalize hes5 : es = es5 at E5 et5 l5
        generalize H6 = H5 at E5 ht5 hD5 ⊢
        · skip
          walk_at "go"
          refine i_itd (fun h7 => ?_) (fun h7 => ?_)
          · walk_at "go"
            refine ⟨p, P, H, [t, D], es5, rfl, S, E5, hav _ ht5 hD5, by omega, by omega, et5, fun es' H6 E6 el6 => ?_⟩
            walk_at "go"
            exact k P es' H6 E6.weak (by omega)
          · walk_at "go"
            exact k P es5 _ E5.weak (by omega)
end
end Me
set_option maxHeartbeats 8000000
namespace Me
open PySem L2


def prP (rows : Bool) (es : List El) : Prop := if rows = true then partsP es else waysP es
def fldOf (rows : Bool) : Str := if rows = true then "parts" else "ways"
section
variable {P : Program} {w : World} {K : PySem.W.Frag} {mg : Str → Option Value} {base : Heap} {a : Ad}
def spMake (a : Ad) : Sp := fun vs H Q E => ∃ (rows : Bool) (v : V) (o : Option (List El)), vs = [.bl rows, v] ∧ Pas a H v o ∧
  (∀ es, o = some es → prP rows es → ∀ t H', Same H H' → H' t = some (.tup (es.map (·.v))) → Q (.ref t) H') ∧
  ((¬ ∃ es, o = some es ∧ prP rows es) → ∀ d H', Same H H' → H' d = some (.xd [("part", .str (fldOf rows))]) → E (.ref a.bad) (some d) H')
theorem Pas.same {a : Ad} {H H' : Hp} {v : V} {o : Option (List El)} (h : Pas a H v o) (s : Same H H') : Pas a H' v o := by
  cases h with
  | seq h hs he => exact .seq (h.same s) hs fun e me => (he e me).soft (Same.soft s)
  | oth h n =>
    refine .oth (h.same s) fun q xs e => ?_
    subst e
    cases h with
    | tup g => exact absurd g (n _ _ rfl).2
    | lst g => exact absurd g (n _ _ rfl).1
    | dK g => rw [s _ _ g]; exact ⟨(fun z => by cases z), (fun z => by cases z)⟩
theorem ok_make (T : Txt K mg a) : FnOk P w K mg base (L2.CX P w) 5 a._law_make.f a._law_make.fd ["_law_rows_here", "_law_passed"] (spMake a) := by
  have GI9 : FnOk P w K mg base (L2.CX P w) 3 (a.I 9).f (a.I 9).fd ["self", "ways"] (spChoiceG a) := ok_ChoiceG T
  have GI10 : FnOk P w K mg base (L2.CX P w) 3 (a.I 10).f (a.I 10).fd ["self", "parts"] (spRowG a) := ok_RowG T
  have sc : FnScope ["_law_rows_here", "_law_passed"] ["_law_rows_here", "_law_passed"] (defScope (top 43)) := ⟨rfl, rfl, rfl, by decide +kernel, rfl, by decide +kernel, by decide +kernel⟩
  refine T._law_make.okX sc (fun vs H Q E h => ?_) (fun cdv A outer s H vs Q E hr h => ?_)
  · obtain ⟨rows, v, o, rfl, _⟩ := h
    rfl
  · obtain ⟨rows, v, o, rfl, hv, k1, k2⟩ := h
    have tk : Takes (cxOf (L2.CX P w) P w K mg base ["_law_rows_here", "_law_passed"] "_law_make" (defScope (top 43)) a._law_make.f cdv A outer s H E) (fun cls d _ H => E cls d H) := takes_of rfl rfl rfl rfl
    refine ⟨_, (pss_cons (ps_if (pt_val (pv 0))
      (pss_one (ps_ret (pe_fld (pe_make T.mk10 GI10 (hr.mono (by decide)) rfl (T.kc 10 (by decide)).gl T.Ib10 .nil (passes_call tk (fun _ _ _ _ h => h)) (pa_cons (pv 1) pa_nil)) rfl)))
      pss_nil)
      (pss_one (ps_ret (pe_fld (pe_make T.mk9 GI9 (hr.mono (by decide)) rfl (T.kc 9 (by decide)).gl T.Ib9 .nil (passes_call tk (fun _ _ _ _ h => h)) (pa_cons (pv 1) pa_nil)) rfl)))), ?_⟩
    walk_at "go"
    cases rows with
    | true =>
      refine i_yes rfl ?_
      walk_at "go"
      refine i_fld ?_
      refine i_make ?_
      walk_at "go"
      intro x dx nx ndx ne
      have s0 := same2 (o := .own x) (o' := .ins (a.C 10) dx []) nx ndx
      refine ⟨x, dx, v, o, rfl, upd_same, hv.same s0, fun es e q H' t kp hx ht => ⟨rfl, ?_⟩, fun no d H' s1 hd => ?_⟩
      · exact ⟨x, _, dx, _, .ref t, rfl, hx, (T.kc 10 (by decide)).cl, (T.kc 10 (by decide)).no _ (by decide), rfl, k1 es e (by unfold prP; rw [if_pos rfl]; exact q) t H' (kp.same nx ndx) ht⟩
      · exact k2 (fun ⟨es, e, q⟩ => no ⟨es, e, by unfold prP at q; rw [if_pos rfl] at q; exact q⟩) d H' (s0.trans s1) hd
    | false =>
      refine i_no rfl ?_
      walk_at "go"
      refine i_fld ?_
      refine i_make ?_
      walk_at "go"
      intro x dx nx ndx ne
      have s0 := same2 (o := .own x) (o' := .ins (a.C 9) dx []) nx ndx
      refine ⟨x, dx, v, o, rfl, upd_same, hv.same s0, fun es e q H' t kp hx ht => ⟨rfl, ?_⟩, fun no d H' s1 hd => ?_⟩
      · exact ⟨x, _, dx, _, .ref t, rfl, hx, (T.kc 9 (by decide)).cl, (T.kc 9 (by decide)).no _ (by decide), rfl, k1 es e (by unfold prP; rw [if_neg Bool.false_ne_true]; exact q) t H' (kp.same nx ndx) ht⟩
      · exact k2 (fun ⟨es, e, q⟩ => no ⟨es, e, by unfold prP at q; rw [if_neg Bool.false_ne_true] at q; exact q⟩) d H' (s0.trans s1) hd
def spTold (a : Ad) : Sp := fun vs H Q _ => ∃ (rows : Bool) (v : V) (o : Option (List El)), vs = [.bl rows, v] ∧ Pas a H v o ∧
  (∀ es, o = some es → prP rows es → ∀ r t H', Same H H' → H' r = some (.tup [.str "made", .ref t]) → H' t = some (.tup (es.map (·.v))) → Q (.ref r) H') ∧
  ((¬ ∃ es, o = some es ∧ prP rows es) → ∀ r H', Same H H' → H' r = some (.tup [.str "refused", .str (fldOf rows)]) → Q (.ref r) H')
theorem ok_told (T : Txt K mg a) : FnOk P w K mg base CX0 7 a._law_told.f a._law_told.fd ["_law_rows_here", "_law_passed"] (spTold a) := by
  have G__law_make : FnOk P w K mg base (L2.CX P w) 5 a._law_make.f a._law_make.fd ["_law_rows_here", "_law_passed"] (spMake a) := ok_make T
  have sc : FnScope ["_law_rows_here", "_law_passed", "e"] ["_law_rows_here", "_law_passed"] (defScope (top 44)) := ⟨rfl, rfl, rfl, by decide +kernel, rfl, by decide +kernel, by decide +kernel⟩
  refine T._law_told.ok sc (fun vs H Q E h => ?_) (fun cdv A outer s H vs Q E hr h => ?_)
  · obtain ⟨rows, v, o, rfl, _⟩ := h
    rfl
  · obtain ⟨rows, v, o, rfl, hv, k1, k2⟩ := h
    refine ⟨_, (pss_one (ps_try_as (i := 2) (tb := fun W => tRet (tTup (tCons (tC (.str "made")) (tCons (tCall (spMake a) [] (AW 3 W) (tCons (tVar 0) (tCons (tVar 1) tNil))) tNil)))) (ts := tsBad a.bad 2) (Wout := fun _ _ _ _ => False) rfl rfl sc.nd rfl rfl ⟨rfl, by decide, Or.inl T.bad.gl⟩ takes0 (fun W pn xe tk _ => (by exact (pss_one (ps_ret (pe_tup (pa_cons pe_str (pa_cons (by exact (pe_call G__law_make (hr.mono (by first | decide | omega)) rfl T._law_make.mg T._law_make.kp T._law_make.b .nil (passW tk) (pa_cons (pv 0) (pa_cons (pv 1) pa_nil)))) pa_nil))))))) (fun e oe cls d pn hz hf => (by exact (pss_one (ps_ret (pe_tup (pa_cons pe_str (pa_cons (pe_xf T.bad.xf T.bad.no hz hf (pv 2)) pa_nil))))))))), ?_⟩
    walk_at "go"
    refine ⟨rows, v, o, rfl, hv, fun es e q t H1 s1 ht => ?_, fun no d H1 s1 hd => ?_⟩
    · walk_at "go"
      rename_i r nr
      exact k1 es e q r t _ (same_new s1 nr) upd_same (by rw [upd_ne (ne_of_none ht nr)]; exact ht)
    · refine caught T.bad (by decide) hd fun r nr => ?_
      exact k2 no r _ (same_new s1 nr) upd_same
def rightK (rows : Bool) (wh : Nat) : Nat := if rows = true then (if wh = 0 then 7 else 8) else (if wh = 0 then 5 else 6)
def spRight (a : Ad) : Sp := fun vs H Q _ => ∃ (rows : Bool) (wh : Nat) (v : V) (kd : Option Nat), vs = [.bl rows, .int wh, v] ∧ Itm a H v kd ∧ Q (.bl (decide (kd = some (rightK rows wh)))) H
theorem ok_right (T : Txt K mg a) : FnOk P w K mg base CX0 1 a._law_is_right.f a._law_is_right.fd ["_law_rows_here", "_law_which", "_law_made"] (spRight a) := by
  have sc : FnScope ["_law_rows_here", "_law_which", "_law_made"] ["_law_rows_here", "_law_which", "_law_made"] (defScope (top 45)) := ⟨rfl, rfl, rfl, by decide +kernel, rfl, by decide +kernel, by decide +kernel⟩
  refine T._law_is_right.ok sc (fun vs H Q E h => ?_) (fun cdv A outer s H vs Q E hr h => ?_)
  · obtain ⟨rows, wh, v, kd, rfl, _⟩ := h
    rfl
  · obtain ⟨rows, wh, v, kd, rfl, hv, k⟩ := h
    refine ⟨_, (pss_cons (ps_if (PW.pt (pw_and (pt_val (pv 0)) (pw_and1 (pt_cmpR op_eq (pv 1) pe_int (nomark _)))))
      (pss_one (ps_ret (pe_callB call_isi (by rfl) T.isinstance (by decide +kernel) (pa_cons (pv 2) (pa_cons (pe_glob (v := .ref (a.C 7)) rfl (T.kc 7 (by decide)).gl rfl) pa_nil)))))
      pss_nil)
      (pss_cons (ps_if (pt_val (pv 0))
      (pss_one (ps_ret (pe_callB call_isi (by rfl) T.isinstance (by decide +kernel) (pa_cons (pv 2) (pa_cons (pe_glob (v := .ref (a.C 8)) rfl (T.kc 8 (by decide)).gl rfl) pa_nil)))))
      pss_nil)
      (pss_cons (ps_if (pt_cmpR op_eq (pv 1) pe_int (nomark _))
      (pss_one (ps_ret (pe_callB call_isi (by rfl) T.isinstance (by decide +kernel) (pa_cons (pv 2) (pa_cons (pe_glob (v := .ref (a.C 5)) rfl (T.kc 5 (by decide)).gl rfl) pa_nil)))))
      pss_nil)
      (pss_one (ps_ret (pe_callB call_isi (by rfl) T.isinstance (by decide +kernel) (pa_cons (pv 2) (pa_cons (pe_glob (v := .ref (a.C 6)) rfl (T.kc 6 (by decide)).gl rfl) pa_nil)))))))), ?_⟩
    walk_at "go"
    cases rows with
    | true =>
      refine i_yes rfl ?_
      walk_at "go"
      refine i_itd (fun h => ?_) (fun h => ?_)
      · have h : wh = 0 := by have := V.int.inj h; omega
        walk_at "go"
        refine i_isC T (by decide) hv ?_
        have e : rightK true wh = 7 := by unfold rightK; rw [if_pos rfl, if_pos h]
        rw [e] at k
        exact k
      · have h : wh ≠ 0 := fun z => h (by rw [z]; rfl)
        walk_at "go"
        refine i_isC T (by decide) hv ?_
        have e : rightK true wh = 8 := by unfold rightK; rw [if_pos rfl, if_neg h]
        rw [e] at k
        exact k
    | false =>
      refine i_no rfl ?_
      walk_at "go"
      refine i_itd (fun h => ?_) (fun h => ?_)
      · have h : wh = 0 := by have := V.int.inj h; omega
        walk_at "go"
        refine i_isC T (by decide) hv ?_
        have e : rightK false wh = 5 := by unfold rightK; rw [if_neg Bool.false_ne_true, if_pos h]
        rw [e] at k
        exact k
      · have h : wh ≠ 0 := fun z => h (by rw [z]; rfl)
        walk_at "go"
        refine i_isC T (by decide) hv ?_
        have e : rightK false wh = 6 := by unfold rightK; rw [if_neg Bool.false_ne_true, if_neg h]
        rw [e] at k
        exact k
end
end Me
set_option maxHeartbeats 8000000
namespace Me
open PySem L2


/-- the law's rows, as a list that is only read -/
structure Giv (H : Hp) (P : Addr) (es : List (Addr × Ent)) : Prop where
  l : H P = some (.lst (es.map fun q => V.ref q.1))
  e : ∀ q ∈ es, H q.1 = some (.lst (entL q.2)) ∧ EntOk H q.2
theorem Giv.same {H H' : Hp} {P : Addr} {es : List (Addr × Ent)} (h : Giv H P es) (s : Same H H') : Giv H' P es := ⟨s _ _ h.l, fun q hq => ⟨s _ _ (h.e q hq).1, (h.e q hq).2.soft (Same.soft s)⟩⟩
theorem Ents.giv {p P : Addr} {av : List Addr} {H0 H : Hp} {es : List (Addr × Ent)} (E : Ents p P av H0 H es) : Giv H P es := ⟨E.l, fun q hq => ⟨(E.e q hq).1, (E.e q hq).2.1⟩⟩
/-- what comes of all the rows -/
def Alls (a : Ad) (H : Hp) (rows : Bool) (es : List (Addr × Ent)) (els : List El) : Prop := els.length = es.length ∧ ∀ (i : Nat) q el, es[i]? = some q → els[i]? = some el → OneE a H rows q.2 el
theorem Alls.soft {a : Ad} {H H' : Hp} {rows : Bool} {es : List (Addr × Ent)} {els : List El} (h : Alls a H rows es els) (s : Soft H H') : Alls a H' rows es els := ⟨h.1, fun i q el h1 h2 => (h.2 i q el h1 h2).soft s⟩
theorem pick_els : ∀ {ys : List V} {R : Nat → El → Prop}, (∀ (i : Nat) y, ys[i]? = some y → ∃ el : El, el.v = y ∧ R i el) → ∃ els : List El, els.map (·.v) = ys ∧ ∀ (i : Nat) el, els[i]? = some el → R i el
  | [], R, _ => ⟨[], rfl, fun i el h => by cases h⟩
  | y :: r, R, h => by
    obtain ⟨el, e, h0⟩ := h 0 y rfl
    obtain ⟨els, e2, h2⟩ := pick_els (ys := r) (R := fun i => R (i + 1)) fun i z hz => h (i + 1) z hz
    refine ⟨el :: els, by rw [List.map_cons, e, e2], fun i el' h' => ?_⟩
    cases i with
    | zero => cases h'; exact h0
    | succ i => exact h2 i el' h'
section
variable {P : Program} {w : World} {K : PySem.W.Frag} {mg : Str → Option Value} {base : Heap} {a : Ad}
/-- [_law_one(rows, entry) for entry in given] -/
theorem ones_lc {σ : L2.St} {H : Hp} {Q : VK} {G : Addr} {j k r : Nat} {rows : Bool} {es : List (Addr × Ent)} (h0 : σ[j]? = some (some (.ref G))) (hG : Giv H G es) (sm : es.length ≤ 100) (hw : ∀ x, wipe ((wipe σ [k]).set k (some x)) [k] = wipe σ [k])
    (hr : ∀ x, ((wipe σ [k]).set k (some x))[r]? = some (some (.bl rows))) (hk : ∀ x, ((wipe σ [k]).set k (some x))[k]? = some (some x))
    (kk : ∀ D els H', H D = none → Same H H' → H' D = some (.lst (els.map (·.v))) → Alls a H' rows es els → Q (.ref D) H') : tLc (iSq K j) (gName k) tYes (tCall (spOne a) [] E0 (tCons (tVar r) (tCons (tVar k) tNil))) [k] σ H Q := by
  refine many_lc (xs := es.map fun q => V.ref q.1) (fun i y H' => ∃ (q : Addr × Ent) (el : El), es[i]? = some q ∧ el.v = y ∧ OneE a H' rows q.2 el) (fun i y H1 H2 s h => by
    obtain ⟨q, el, h1, h2, h3⟩ := h
    exact ⟨q, el, h1, h2, h3.soft s⟩) h0 (.inl (SqL.of hG.l)) (by rw [List.length_map]; exact Nat.lt_of_le_of_lt sm (by decide)) hw (fun i x H1 R hx s1 q => ?_) (fun D ys H' nD s e hl hrr => ?_)
  · rw [List.getElem?_map] at hx
    cases he : es[i]? with
    | none => rw [he] at hx; cases hx
    | some qe =>
      rw [he] at hx
      cases hx
      have g1 := (hG.same s1).e qe (List.mem_of_getElem? he)
      refine ⟨_, hr _, _, hk _, rows, qe.1, qe.2, rfl, g1.1, g1.2, fun el H4 s4 o => ?_⟩
      exact q el.v H4 s4 ⟨qe, el, he, rfl, o⟩
  · rw [List.length_map] at hl
    obtain ⟨els, e2, h2⟩ := pick_els (ys := ys) (R := fun i el => ∃ q, es[i]? = some q ∧ OneE a H' rows q.2 el) fun i y hy => by
      obtain ⟨q, el, h1, h3, h4⟩ := hrr i y hy
      exact ⟨el, h3, q, h1, h4⟩
    refine kk D els H' nD s (by rw [e2]; exact e) ⟨by rw [← hl, ← e2, List.length_map], fun i q el h1 h3 => ?_⟩
    obtain ⟨q', h4, h5⟩ := h2 i el h3
    rw [h1] at h4
    cases h4
    exact h5
theorem Alls.pas {H : Hp} {D : Addr} {rows : Bool} {es : List (Addr × Ent)} {els : List El} (h : Alls a H rows es els) (hD : LT H D (els.map (·.v))) (sm : es.length ≤ 100) : Pas a H (.ref D) (some els) := by
  refine .seq hD (by rw [h.1]; exact sm) fun el me => ?_
  obtain ⟨i, hi⟩ := List.getElem?_of_mem me
  have hil := (List.getElem?_eq_some_iff.mp hi).1
  have hi2 : i < es.length := by rw [← h.1]; exact hil
  exact (h.2 i _ el (List.getElem?_eq_getElem hi2) hi).at_
def spAfter (a : Ad) : Sp := fun vs H Q _ => ∃ (rows : Bool) (G : Addr) (es : List (Addr × Ent)), vs = [.bl rows, .ref G] ∧ Giv H G es ∧ es.length ≤ 100 ∧ (∀ els H', Alls a H' rows es els → prP rows els) ∧ ∀ t els H', Same H H' → H' t = some (.tup (els.map (·.v))) → Alls a H' rows es els → Q (.ref t) H'
theorem ok_after (T : Txt K mg a) : FnOk P w K mg base CX0 8 a._law_after_change.f a._law_after_change.fd ["_law_rows_here", "_law_given"] (spAfter a) := by
  have G__law_one : FnOk P w K mg base CX0 7 a._law_one.f a._law_one.fd ["_law_rows_here", "_law_entry"] (spOne a) := ok_one T
  have GI2 : FnOk P w K mg base (L2.CX P w) 3 (a.I 2).f (a.I 2).fd ["self", "many"] (spBit a) := ok_bit T
  have GI5 : FnOk P w K mg base (L2.CX P w) 4 (a.I 5).f (a.I 5).fd ["self", "word", "name", "kind"] (spWay a) := ok_Way T
  have GI7 : FnOk P w K mg base (L2.CX P w) 4 (a.I 7).f (a.I 7).fd ["self", "name", "kind"] (spPart a) := ok_Part T
  have GI9 : FnOk P w K mg base (L2.CX P w) 3 (a.I 9).f (a.I 9).fd ["self", "ways"] (spChoiceG a) := ok_ChoiceG T
  have GI10 : FnOk P w K mg base (L2.CX P w) 3 (a.I 10).f (a.I 10).fd ["self", "parts"] (spRowG a) := ok_RowG T
  have sc : FnScope ["_law_rows_here", "_law_given", "_law_passed", "_law_entry", "_law_row", "_law_choice"] ["_law_rows_here", "_law_given"] (defScope (top 47)) := ⟨rfl, rfl, rfl, by decide +kernel, rfl, by decide +kernel, by decide +kernel⟩
  refine T._law_after_change.ok sc (fun vs H Q E h => ?_) (fun cdv A outer s H vs Q E hr h => ?_)
  · obtain ⟨rows, G, es, rfl, _⟩ := h
    rfl
  · obtain ⟨rows, G, es, rfl, hG, sm, hpr, k⟩ := h
    refine ⟨_, (pss_cons (ps_setLc (te := tCall (spOne a) [] E0 (tCons (tVar 0) (tCons (tVar 3) tNil))) (i := 2) (own := [("_law_entry", 3)]) (g := gName 3) (by rfl) sc.nd rfl rfl (sw_true rfl rfl rfl (by decide +kernel)) (pi_sqv (pv 1)) (blkOk_by (own := [("_law_entry", 3)]) (N := ["_law_rows_here", "_law_given", "_law_passed", "_law_entry", "_law_row", "_law_choice"]) (sc := defScope (top 47)) (by decide +kernel)) (fun _ _ _ _ _ => pg_name (i := 3) sc.nd rfl (Or.inl rfl)) (fun _ _ _ _ _ => pts_nil) (fun _ _ _ _ _ => (by exact (pe_call G__law_one (hr.mono (by first | decide | omega)) rfl T._law_one.mg T._law_one.kp T._law_one.b .nil pass0 (pa_cons (pv 0) (pa_cons (pv 3) pa_nil))))))
      (pss_cons (ps_if (pt_val (pv 0))
      (pss_cons (ps_set (i := 4) sc.nd rfl (by first | exact Or.inl rfl | exact Or.inr rfl) (pe_make T.mk10 GI10 (hr.mono (by decide)) rfl (T.kc 10 (by decide)).gl T.Ib10 .nil passF (pa_cons (pv 2) pa_nil)))
      (pss_cons (ps_expr (pe_bm PySem.F.plainAttrs_list PySem.F.slot_list_append PySem.F.type_list_append mt_append (pv 2) (pa_cons (pe_make T.mk7 GI7 (hr.mono (by decide)) rfl (T.kc 7 (by decide)).gl T.Ib7 .nil passF (pa_cons pe_str (pa_cons (pe_make T.mk2 GI2 (hr.mono (by decide)) rfl (T.kc 2 (by decide)).gl T.Ib2 .nil passF (pa_cons pe_int pa_nil)) pa_nil))) pa_nil)))
      (pss_one (ps_ret (pe_fld (pv 4) rfl)))))
      pss_nil)
      (pss_cons (ps_set (i := 5) sc.nd rfl (by first | exact Or.inl rfl | exact Or.inr rfl) (pe_make T.mk9 GI9 (hr.mono (by decide)) rfl (T.kc 9 (by decide)).gl T.Ib9 .nil passF (pa_cons (pv 2) pa_nil)))
      (pss_cons (ps_asg (pe_make T.mk5 GI5 (hr.mono (by decide)) rfl (T.kc 5 (by decide)).gl T.Ib5 .nil passF (pa_cons pe_str (pa_cons pe_str (pa_cons (pe_mk0 (T.kc 0 (by decide)).mks T.ini0 (T.kc 0 (by decide)).kp (T.kc 0 (by decide)).gl) pa_nil)))) (pg_sub (pv 2) pe_int set_list))
      (pss_one (ps_ret (pe_fld (pv 5) rfl))))))), ?_⟩
    have s0 : Sh (.str "0") := fun z e => by injection e with e; rw [← e]; decide
    have sa : Sh (.str "a") := fun z e => by injection e with e; rw [← e]; decide
    have sz : Sh (.str "z") := fun z e => by injection e with e; rw [← e]; decide
    walk_at "go"
    refine ones_lc (rows := rows) rfl hG sm (fun _ => rfl) (fun _ => rfl) (fun _ => rfl) fun D els H1 nD s1 hD al => ?_
    have pr := hpr els H1 al
    have lels : els.length ≤ 100 := by rw [al.1]; exact sm
    walk_at "go"
    cases rows with
    | true =>
      refine i_yes rfl ?_
      walk_at "go"
      refine i_make ?_
      walk_at "go"
      intro x dx nx ndx ne
      have s2 := same2 (o := .own x) (o' := .ins (a.C 10) dx []) nx ndx
      refine ⟨x, dx, .ref D, some els, rfl, upd_same, (al.pas (.inl hD) sm).same s2, fun es' e q H2 t kp hx ht => ⟨rfl, ?_⟩, fun no => absurd ⟨els, rfl, by unfold prP at pr; rw [if_pos rfl] at pr; exact pr⟩ no⟩
      cases e
      have s3 := kp.same nx ndx
      have hD2 := s3 _ _ hD
      walk_at "go"
      refine ⟨.ref D, rfl, .inl ⟨rfl, _, SqL.of hD2⟩, ?_⟩
      walk_at "go"
      refine i_make ?_
      walk_at "go"
      refine i_make ?_
      walk_at "go"
      intro x4 dx4 nx4 ndx4 ne4
      refine ⟨x4, dx4, _, rfl, upd_same, .int _, fun e1 H3 kp3 hx3 => ⟨rfl, ?_⟩, fun z e' => by cases e'⟩
      have s4 := kp3.same nx4 ndx4
      walk_at "go"
      intro x5 dx5 nx5 ndx5 ne5
      refine ⟨x5, dx5, _, _, _, rfl, upd_same, .str _, sz, .ins (i := 2) (by decide) (same2 nx5 ndx5 _ _ hx3), fun e1 H4 kp4 hx5 => ⟨rfl, ?_⟩, fun z e' => by
        have : partBad (.str "z") (some 2) = none := by decide +kernel
        rw [this] at e'; cases e'⟩
      have s5 := kp4.same nx5 ndx5
      have s25 := s4.trans s5
      have hD5 := s25 _ _ hD2
      have so : Soft H4 (upd H4 D (.lst (els.map (·.v) ++ [.ref x5]))) := soft_upd hD5
      refine ⟨D, _, _, rfl, rfl, hD5, by rw [List.length_map]; exact Nat.lt_of_le_of_lt lels (by decide), ?_⟩
      walk_at "go"
      have hx6 := s25 _ _ hx
      have xD : x ≠ D := fun z => by rw [z, hD5] at hx6; cases hx6
      have tD : t ≠ D := fun z => by have := s25 _ _ ht; rw [z, hD5] at this; cases this
      refine i_fld ⟨_, rfl, x, _, dx, _, .ref t, rfl, by rw [upd_ne xD]; exact hx6, (T.kc 10 (by decide)).cl, (T.kc 10 (by decide)).no _ (by decide), rfl, ?_⟩
      refine k t els _ (fun b o e => ?_) (by rw [upd_ne tD]; exact s25 _ _ ht) (al.soft ((Same.soft (s3.trans s25)).trans so))
      rw [upd_ne (ne_of_none e nD)]
      exact (s3.trans s25) _ _ (s1 _ _ e)
    | false =>
      refine i_no rfl ?_
      walk_at "go"
      refine i_make ?_
      walk_at "go"
      intro x dx nx ndx ne
      have s2 := same2 (o := .own x) (o' := .ins (a.C 9) dx []) nx ndx
      have pr2 : waysP els := by unfold prP at pr; rw [if_neg Bool.false_ne_true] at pr; exact pr
      refine ⟨x, dx, .ref D, some els, rfl, upd_same, (al.pas (.inl hD) sm).same s2, fun es' e q H2 t kp hx ht => ⟨rfl, ?_⟩, fun no => absurd ⟨els, rfl, pr2⟩ no⟩
      cases e
      have s3 := kp.same nx ndx
      have hD2 := s3 _ _ hD
      walk_at "go"
      refine i_make ?_
      walk_at "go"
      intro x4 dx4 nx4 ndx4 ne4
      have s4 := same2 (o := .own x4) (o' := .ins (a.C 0) dx4 []) nx4 ndx4
      have hx4 := upd_same (H := upd H2 dx4 (.own x4)) (a := x4) (o := .ins (a.C 0) dx4 [])
      generalize upd (upd H2 dx4 (.own x4)) x4 (.ins (a.C 0) dx4 []) = H3 at s4 hx4 ⊢
      walk_at "go"
      intro x5 dx5 nx5 ndx5 ne5
      refine ⟨x5, dx5, _, _, _, _, rfl, upd_same, .str _, s0, .str _, sa, .ins (i := 0) (by decide) (same2 nx5 ndx5 _ _ hx4), fun e1 H4 kp4 hx5 => ⟨rfl, ?_⟩, fun z e' => by
        have : wayBad (.str "0") (.str "a") (some 0) = none := by decide +kernel
        rw [this] at e'; cases e'⟩
      have s5 := kp4.same nx5 ndx5
      have s25 := s4.trans s5
      have hD5 := s25 _ _ hD2
      walk_at "go"
      have h1l : 0 < els.length := by have := pr2.1.1; omega
      have so : Soft H4 (upd H4 D (.lst ((els.map (·.v)).set 0 (.ref x5)))) := soft_upd hD5
      refine i_setl hD5 (j := 0) (by unfold ixN; rw [if_pos (by omega), if_pos (by rw [List.length_map]; omega)]; rfl) ?_
      walk_at "go"
      have hx6 := s25 _ _ hx
      have xD : x ≠ D := fun z => by rw [z, hD5] at hx6; cases hx6
      have tD : t ≠ D := fun z => by have := s25 _ _ ht; rw [z, hD5] at this; cases this
      refine i_fld ⟨_, rfl, x, _, dx, _, .ref t, rfl, by rw [upd_ne xD]; exact hx6, (T.kc 9 (by decide)).cl, (T.kc 9 (by decide)).no _ (by decide), rfl, ?_⟩
      refine k t els _ (fun b o e => ?_) (by rw [upd_ne tD]; exact s25 _ _ ht) (al.soft ((Same.soft (s3.trans s25)).trans so))
      rw [upd_ne (ne_of_none e nD)]
      exact (s3.trans s25) _ _ (s1 _ _ e)
end
end Me
set_option maxHeartbeats 8000000
namespace Me
open PySem L2


def t3 (rows : Bool) (q : Addr × Ent) : T3 := ⟨plainT rows q.2, q.2.w, q.2.n⟩
theorem alls_map {a : Ad} {H : Hp} {rows : Bool} {es : List (Addr × Ent)} {els : List El} (h : Alls a H rows es els) {α : Type} (f : El → α) (g : Addr × Ent → α) (fg : ∀ q el, OneE a H rows q.2 el → f el = g q) : els.map f = es.map g := by
  refine List.ext_getElem? fun i => ?_
  rw [List.getElem?_map, List.getElem?_map]
  by_cases hi : i < es.length
  · have h1 : i < els.length := by rw [h.1]; exact hi
    rw [List.getElem?_eq_getElem hi, List.getElem?_eq_getElem h1]
    exact congrArg some (fg _ _ (h.2 i _ _ (List.getElem?_eq_getElem hi) (List.getElem?_eq_getElem h1)))
  · have h1 : els.length ≤ i := by rw [h.1]; omega
    rw [List.getElem?_eq_none h1, List.getElem?_eq_none (by omega : es.length ≤ i)]
    rfl
theorem alls_mem {a : Ad} {H : Hp} {rows : Bool} {es : List (Addr × Ent)} {els : List El} (h : Alls a H rows es els) : (∀ el ∈ els, ∃ q ∈ es, OneE a H rows q.2 el) ∧ ∀ q ∈ es, ∃ el ∈ els, OneE a H rows q.2 el := by
  constructor
  · intro el me
    obtain ⟨i, hi⟩ := List.getElem?_of_mem me
    have h1 := (List.getElem?_eq_some_iff.mp hi).1
    have h2 : i < es.length := by rw [← h.1]; exact h1
    exact ⟨_, List.getElem_mem h2, h.2 i _ _ (List.getElem?_eq_getElem h2) hi⟩
  · intro q mq
    obtain ⟨i, hi⟩ := List.getElem?_of_mem mq
    have h1 := (List.getElem?_eq_some_iff.mp hi).1
    have h2 : i < els.length := by rw [h.1]; exact h1
    exact ⟨_, List.getElem_mem h2, h.2 i _ _ hi (List.getElem?_eq_getElem h2)⟩
/-- the law's judgement is the program's -/
theorem pr_good {a : Ad} {H G : Hp} {rows : Bool} {es : List (Addr × Ent)} {els : List El} (h : Alls a H rows es els) (ok : ∀ q ∈ es, EntOk G q.2) : prP rows els ↔ goodP rows (es.map (t3 rows)) := by
  have en : els.map (·.n) = (es.map (t3 rows)).map (·.n) := by rw [List.map_map]; exact alls_map h _ _ fun q el o => o.n
  have ew : els.map (·.w) = (es.map (t3 rows)).map (·.w) := by rw [List.map_map]; exact alls_map h _ _ fun q el o => o.w
  have el : els.length = (es.map (t3 rows)).length := by rw [List.length_map, h.1]
  obtain ⟨m1, m2⟩ := alls_mem h
  cases rows with
  | true =>
    unfold prP goodP partsP
    rw [if_pos rfl, if_pos rfl, en, el]
    have hall : (∀ e ∈ els, isK e.k [7, 8] = true) ↔ ∀ z ∈ es.map (t3 true), z.t ≤ 1 := by
      constructor
      · intro q z hz
        obtain ⟨x, hx, rfl⟩ := List.mem_map.mp hz
        obtain ⟨e, he, o⟩ := m2 x hx
        have := q e he
        rw [o.k] at this
        exact (parts_corr (ok x hx)).1.mp this
      · intro q e he
        obtain ⟨x, hx, o⟩ := m1 e he
        rw [o.k]
        exact (parts_corr (ok x hx)).1.mpr (q _ (List.mem_map.mpr ⟨x, hx, rfl⟩))
    have hlast : (∃ e, els.getLast? = some e ∧ e.k = some 7) ↔ ∃ z, (es.map (t3 true)).getLast? = some z ∧ z.t = 0 := by
      rw [List.getLast?_eq_getElem?, List.getLast?_eq_getElem?, ← el, h.1, List.getElem?_map]
      constructor
      · rintro ⟨e, he, k7⟩
        have h1 := (List.getElem?_eq_some_iff.mp he).1
        have h2 : es.length - 1 < es.length := by rw [h.1] at h1; exact h1
        have o := h.2 _ _ _ (List.getElem?_eq_getElem h2) he
        refine ⟨_, by rw [List.getElem?_eq_getElem h2]; rfl, ?_⟩
        rw [o.k] at k7
        exact (parts_corr (ok _ (List.getElem_mem h2))).2.mp k7
      · rintro ⟨z, hz, t0⟩
        cases hq : es[es.length - 1]? with
        | none => rw [hq] at hz; cases hz
        | some x =>
          rw [hq] at hz
          cases hz
          have h1 := (List.getElem?_eq_some_iff.mp hq).1
          have h2 : es.length - 1 < els.length := by rw [h.1]; exact h1
          have o := h.2 _ _ _ hq (List.getElem?_eq_getElem h2)
          exact ⟨_, List.getElem?_eq_getElem h2, by rw [o.k]; exact (parts_corr (ok _ (List.mem_of_getElem? hq))).2.mpr t0⟩
    rw [hall, hlast]
    constructor
    · rintro ⟨a1, a2, a3, a4⟩
      exact ⟨a1, a2, a4, (fun z => by cases z), fun _ => a3, fun z => by cases z⟩
    · rintro ⟨a1, a2, a4, _, a3, _⟩
      exact ⟨a1, a2, a3 rfl, a4⟩
  | false =>
    unfold prP goodP waysP
    rw [if_neg Bool.false_ne_true, if_neg Bool.false_ne_true, en, ew, el]
    have hall : (∀ e ∈ els, isK e.k [5, 6] = true) ↔ ∀ z ∈ es.map (t3 false), z.t ≤ 1 := by
      constructor
      · intro q z hz
        obtain ⟨x, hx, rfl⟩ := List.mem_map.mp hz
        obtain ⟨e, he, o⟩ := m2 x hx
        have := q e he
        rw [o.k] at this
        exact (ways_corr (ok x hx)).1.mp this
      · intro q e he
        obtain ⟨x, hx, o⟩ := m1 e he
        rw [o.k]
        exact (ways_corr (ok x hx)).1.mpr (q _ (List.mem_map.mpr ⟨x, hx, rfl⟩))
    have hex : (∃ e ∈ els, e.k = some 5) ↔ ∃ z ∈ es.map (t3 false), z.t = 0 := by
      constructor
      · rintro ⟨e, he, k5⟩
        obtain ⟨x, hx, o⟩ := m1 e he
        rw [o.k] at k5
        exact ⟨_, List.mem_map.mpr ⟨x, hx, rfl⟩, (ways_corr (ok x hx)).2.mp k5⟩
      · rintro ⟨z, hz, t0⟩
        obtain ⟨x, hx, rfl⟩ := List.mem_map.mp hz
        obtain ⟨e, he, o⟩ := m2 x hx
        exact ⟨e, he, by rw [o.k]; exact (ways_corr (ok x hx)).2.mpr t0⟩
    rw [hall, hex]
    constructor
    · rintro ⟨a1, a2, a3, a4, a5⟩
      exact ⟨a1, a2, a4, fun _ => a5, (fun z => by cases z), fun _ => a3⟩
    · rintro ⟨a1, a2, a4, a5, _, a3⟩
      exact ⟨a1, a2, a3 rfl, a4, a5 rfl⟩
theorem right_corr {H : Hp} {rows : Bool} {e : Ent} (h : EntOk H e) (q : plainT rows e ≤ 1) : oneK rows e = some (rightK rows (plainT rows e)) := by
  cases rows with
  | true =>
    obtain ⟨c1, c2⟩ := parts_corr h
    have c1 := isK_two.mp (c1.mpr q)
    unfold rightK
    rw [if_pos rfl]
    by_cases z : plainT true e = 0
    · rw [if_pos z]; exact c2.mpr z
    · rw [if_neg z]
      rcases c1 with c | c
      · exact absurd (c2.mp c) z
      · exact c
  | false =>
    obtain ⟨c1, c2⟩ := ways_corr h
    have c1 := isK_two.mp (c1.mpr q)
    unfold rightK
    rw [if_neg Bool.false_ne_true]
    by_cases z : plainT false e = 0
    · rw [if_pos z]; exact c2.mpr z
    · rw [if_neg z]
      rcases c1 with c | c
      · exact absurd (c2.mp c) z
      · exact c
section
variable {P : Program} {w : World} {K : PySem.W.Frag} {mg : Str → Option Value} {base : Heap} {a : Ad}
def spKept (a : Ad) : Sp := fun vs H Q _ => ∃ (rows : Bool) (G L t : Addr) (es : List (Addr × Ent)) (xs : List V) (els : List El), vs = [.bl rows, .ref G, .ref L, .ref t] ∧ Giv H G es ∧ es.length ≤ 100 ∧ H L = some (.lst xs) ∧ xs.length = es.length ∧ (∀ (i : Nat) v, xs[i]? = some v → ∃ q, es[i]? = some q ∧ PlAt H v (plainT rows q.2) q.2.w q.2.n) ∧
  H t = some (.tup (els.map (·.v))) ∧ Alls a H rows es els ∧ (∀ q ∈ es, plainT rows q.2 ≤ 1) ∧ ∀ H', Same H H' → Q (.bl true) H'
theorem ok_kept (T : Txt K mg a) : FnOk P w K mg base CX0 8 a._law_kept.f a._law_kept.fd ["_law_rows_here", "_law_given", "_law_plain_here", "_law_told_here"] (spKept a) := by
  have G__law_one : FnOk P w K mg base CX0 7 a._law_one.f a._law_one.fd ["_law_rows_here", "_law_entry"] (spOne a) := ok_one T
  have G__law_is_right : FnOk P w K mg base CX0 1 a._law_is_right.f a._law_is_right.fd ["_law_rows_here", "_law_which", "_law_made"] (spRight a) := ok_right T
  have sc : FnScope ["_law_rows_here", "_law_given", "_law_plain_here", "_law_told_here", "_law_k"] ["_law_rows_here", "_law_given", "_law_plain_here", "_law_told_here"] (defScope (top 46)) := ⟨rfl, rfl, rfl, by decide +kernel, rfl, by decide +kernel, by decide +kernel⟩
  refine T._law_kept.ok sc (fun vs H Q E h => ?_) (fun cdv A outer s H vs Q E hr h => ?_)
  · obtain ⟨rows, G, L, t, es, xs, els, rfl, _⟩ := h
    rfl
  · obtain ⟨rows, G, L, t, es, xs, els, rfl, hG, sm, hL, hl, hx, ht, al, pl, k⟩ := h
    refine ⟨_, (pss_cons (ps_if (PW.pt (pw_or (pt_not (pt_val (pe_callB call_isi (by rfl) T.isinstance (by decide +kernel) (pa_cons (pv 3) (pa_cons (pe_bltn (v := .ty "tuple") (by rfl) T.tuple (by decide +kernel) rfl) pa_nil))))) (pw_or1 (pt_cmpR op_ne (pe_callB call_len_seq (by rfl) T.len PySem.boot_len (pa_cons (pv 3) pa_nil)) (pe_callB call_len_seq (by rfl) T.len PySem.boot_len (pa_cons (pv 2) pa_nil)) (nomark _)))))
      (pss_one (ps_ret pe_bl))
      pss_nil)
      (pss_cons (ps_for PassesOwn.never rfl (pi_range1 rfl T.range (pa_cons (pe_callB call_len_seq (by rfl) T.len PySem.boot_len (pa_cons (pv 2) pa_nil)) pa_nil)) (pg_name (i := 4) sc.nd rfl (by first | exact Or.inl rfl | exact Or.inr rfl))
      (pss_cons (ps_if (pt_not (pt_val (pe_call G__law_is_right (hr.mono (by first | decide | omega)) rfl T._law_is_right.mg T._law_is_right.kp T._law_is_right.b .nil pass0 (pa_cons (pv 0) (pa_cons (pe_ix ix_list (pe_ix ix_list (pv 2) (pv 4) (fun _ _ => rfl)) pe_int (fun _ _ => rfl)) (pa_cons (pe_ix ix_tup (pv 3) (pv 4) (fun _ _ => rfl)) pa_nil))))))
      (pss_one (ps_ret pe_bl))
      pss_nil)
      (pss_one (ps_if (pt_not (pt_cmpR (op_eqG (rc_made T) (hr.mono (by decide))) (pe_ix ix_tup (pv 3) (pv 4) (fun _ _ => rfl)) (pe_call G__law_one (hr.mono (by first | decide | omega)) rfl T._law_one.mg T._law_one.kp T._law_one.b .nil pass0 (pa_cons (pv 0) (pa_cons (pe_ix ix_list (pv 1) (pv 4) (fun _ _ => rfl)) pa_nil))) (nomark _)))
      (pss_one (ps_ret pe_bl))
      pss_nil))))
      (pss_one (ps_ret pe_bl)))), ?_⟩
    walk_at "go"
    refine i_no rfl ?_
    walk_at "go"
    have elen : (els.map (·.v)).length = xs.length := by rw [List.length_map, al.1, hl]
    refine i_no (by rw [elen, decide_eq_true rfl]; rfl) ?_
    walk_at "go"
    refine ⟨_, rfl, L, xs, rfl, .inl (SqL.of hL), (xs.length : Int), rfl, by omega, by omega, for_range (n := xs.length) (fun i σ H' => Same H H' ∧ ∃ v4, σ = [some (.bl rows), some (.ref G), some (.ref L), some (.ref t), v4]) ⟨same_rfl, _, rfl⟩ ?_ ?_⟩
    · rintro i σ H1 hi ⟨s1, v4, rfl⟩
      rw [Int.zero_add]
      have hi2 : i < es.length := by omega
      have hi3 : i < els.length := by rw [al.1]; exact hi2
      have ge : es[i]? = some es[i] := List.getElem?_eq_getElem hi2
      have gl : els[i]? = some els[i] := List.getElem?_eq_getElem hi3
      have gx : xs[i]? = some xs[i] := List.getElem?_eq_getElem hi
      obtain ⟨q0, hq0, qx, rest, ex, hqx⟩ := hx i _ gx
      rw [ge] at hq0
      cases hq0
      rw [ex] at gx
      have mq := List.getElem_mem hi2
      generalize es[i] = q at ge hqx mq
      generalize els[i] = el at gl
      have o := al.2 i q el ge gl
      have o1 := o.soft (Same.soft s1)
      have g1 := (hG.same s1).e q mq
      have tv : (els.map (·.v))[i]? = some el.v := by rw [List.getElem?_map, gl]; rfl
      walk_at "go"
      refine i_ixl (s1 _ _ hL) (atI_nat gx) ?_
      walk_at "go"
      refine i_ixl (s1 _ _ hqx) (atI_nat (j := 0) rfl) ?_
      walk_at "go"
      refine i_ixt (s1 _ _ ht) (atI_nat tv) ?_
      walk_at "go"
      refine ⟨rows, plainT rows q.2, el.v, el.k, rfl, o1.at_.itm, ?_⟩
      have ek : el.k = some (rightK rows (plainT rows q.2)) := by rw [o.k]; exact right_corr g1.2 (pl q mq)
      refine ⟨_, rfl, i_no (by rw [decide_eq_true ek]; rfl) ?_⟩
      walk_at "go"
      refine i_ixt (s1 _ _ ht) (atI_nat tv) ?_
      walk_at "go"
      refine i_ixl (hG.same s1).l (v := .ref q.1) (atI_nat (by rw [List.getElem?_map, ge]; rfl)) ?_
      walk_at "go"
      refine ⟨rows, q.1, q.2, rfl, g1.1, g1.2, fun el' H2 s2 o2 => ?_⟩
      have s12 := s1.trans s2
      refine ⟨(o1.soft (Same.soft s2)).eq o2 (pl q mq), fun H3 s3 => ⟨_, rfl, i_no rfl ?_⟩⟩
      exact ⟨s12.trans s3, _, rfl⟩
    · rintro σ H1 ⟨s1, v4, rfl⟩
      walk_at "go"
      exact k H1 s1
end
end Me
set_option maxHeartbeats 8000000
namespace Me
open PySem L2


theorem went_same {p : Addr} {H H' : Hp} (S : StOk H p) (s : Same H H') : Went p H H' := ⟨S.keep s, fun b o _ e => s b o e, fun L h => h.keep s⟩
section
variable {P : Program} {w : World} {K : PySem.W.Frag} {mg : Str → Option Value} {base : Heap} {a : Ad}
/-- [_law_plain(rows, entry) for entry in given] -/
theorem plains_lc {σ : L2.St} {H : Hp} {Q : VK} {G : Addr} {j k r : Nat} {rows : Bool} {es : List (Addr × Ent)} (h0 : σ[j]? = some (some (.ref G))) (hG : Giv H G es) (sm : es.length ≤ 100) (hw : ∀ x, wipe ((wipe σ [k]).set k (some x)) [k] = wipe σ [k])
    (hr : ∀ x, ((wipe σ [k]).set k (some x))[r]? = some (some (.bl rows))) (hk : ∀ x, ((wipe σ [k]).set k (some x))[k]? = some (some x))
    (kk : ∀ D xs H', H D = none → Same H H' → H' D = some (.lst xs) → xs.length = es.length → (∀ (i : Nat) v, xs[i]? = some v → ∃ q, es[i]? = some q ∧ PlAt H' v (plainT rows q.2) q.2.w q.2.n) → Q (.ref D) H') : tLc (iSq K j) (gName k) tYes (tCall spPlain [] E0 (tCons (tVar r) (tCons (tVar k) tNil))) [k] σ H Q := by
  refine ⟨G, h0, .inl ⟨⟨_, SqL.of hG.l⟩, fun D nD => ?_⟩⟩
  refine lc_list (xs := es.map fun q => V.ref q.1) (fun i H' => Same H H' ∧ ∃ xs, H' D = some (.lst xs) ∧ xs.length = i ∧ ∀ (m : Nat) v, xs[m]? = some v → ∃ q, es[m]? = some q ∧ PlAt H' v (plainT rows q.2) q.2.w q.2.n ∧ v ≠ .ref D) ⟨same_new same_rfl nD, [], upd_same, rfl, fun m v h => by cases h⟩ ?_ ?_ ?_
  · rintro i H1 _ ⟨s1, _⟩
    exact SqL.of (s1 _ _ hG.l)
  · rintro i x H1 hx ⟨s1, xs, e, hl, hr2⟩
    rw [List.getElem?_map] at hx
    cases he : es[i]? with
    | none => rw [he] at hx; cases hx
    | some qe =>
      rw [he] at hx
      cases hx
      have hil := (List.getElem?_eq_some_iff.mp he).1
      have g0 := hG.e qe (List.mem_of_getElem? he)
      have g1 := (hG.same s1).e qe (List.mem_of_getElem? he)
      refine ⟨hw _, ?_⟩
      unfold tYes
      with_reducible refine L2.iteT ?_
      refine ⟨_, hr _, _, hk _, rows, qe.1, qe.2, rfl, g1.1, g1.2, fun v H4 s4 pv fr => ?_⟩
      have e4 := s4 _ _ e
      have vD : v ≠ .ref D := fun z => by
        rcases fr D z with q | q
        · rw [q, g0.1] at nD; cases nD
        · rw [e] at q; cases q
      have keep : ∀ {v : V} {t w n}, v ≠ .ref D → PlAt H4 v t w n → PlAt (upd H4 D (.lst (xs ++ [V.non]))) v t w n → True := fun _ _ _ => trivial
      have up : ∀ {u : V} {t : Nat} {w' n' : Str} {ys : List V}, u ≠ .ref D → PlAt H4 u t w' n' → PlAt (upd H4 D (.lst ys)) u t w' n' := fun {u t w' n' ys} ne ⟨q, rest, eu, hq⟩ => ⟨q, rest, eu, by rw [upd_ne (fun z => ne (by rw [eu, z]))]; exact hq⟩
      refine ⟨xs, e4, by rw [hl]; exact Nat.lt_of_lt_of_le (by omega : i < 101) (by decide), ?_, xs ++ [v], upd_same, by rw [List.length_append, hl]; rfl, fun m u hm => ?_⟩
      · intro b o hb
        rw [upd_ne (ne_of_none hb nD)]
        exact s4 _ _ (s1 _ _ hb)
      · by_cases q : m < xs.length
        · rw [List.getElem?_append_left q] at hm
          obtain ⟨x, h1, h2, h3⟩ := hr2 m u hm
          exact ⟨x, h1, up h3 (h2.same s4), h3⟩
        · rw [List.getElem?_append_right (by omega)] at hm
          have z : m - xs.length = 0 := by
            rcases Nat.eq_zero_or_pos (m - xs.length) with h | h
            · exact h
            · rw [List.getElem?_eq_none (by show 1 ≤ _; omega)] at hm; cases hm
          rw [z] at hm
          cases hm
          have : m = i := by omega
          subst this
          exact ⟨qe, he, up vD pv, vD⟩
  · rintro H1 ⟨s1, xs, e, hl, hr2⟩
    rw [List.length_map] at hl
    exact kk D xs H1 nD s1 e hl fun m v hm => by
      obtain ⟨q, h1, h2, _⟩ := hr2 m v hm
      exact ⟨q, h1, h2⟩
theorem odd_pas {p : Addr} {H : Hp} {v : V} (o : Odd p H v) : ∃ u : Option (List El), Pas a H v u ∧ ∀ rows, ¬ ∃ es, u = some es ∧ prP rows es := by
  have seq : ∀ (q : Addr) (n : Nat) (i : Int), n ≤ 1 → LT H q (List.replicate n (.int i)) → ∃ u : Option (List El), Pas a H (.ref q) u ∧ ∀ rows, ¬ ∃ es, u = some es ∧ prP rows es := fun q n i hn h => by
    refine ⟨some (List.replicate n ⟨.int i, none, "", ""⟩), .seq (by rw [List.map_replicate]; exact h) (by rw [List.length_replicate]; omega) (fun e me => ?_), fun rows ⟨es, e, pr⟩ => ?_⟩
    · rw [List.eq_of_mem_replicate me]
      exact ⟨.th (.int i), fun z => by cases z⟩
    · cases e
      have len : ∀ {x y : Nat}, x ≤ n → 1 ≤ x → n = 1 := fun _ _ => by omega
      have bad : n = 1 → ∀ js, ¬ ∀ e ∈ List.replicate n (⟨.int i, none, "", ""⟩ : El), isK e.k js = true := fun n1 js h => by
        have := h ⟨.int i, none, "", ""⟩ (by rw [n1]; simp)
        simp [isK] at this
      unfold prP at pr
      split at pr
      · have l1 := pr.1.1
        rw [List.length_replicate] at l1
        exact bad (by omega) _ pr.2.1
      · have l1 := pr.1.1
        rw [List.length_replicate] at l1
        exact bad (by omega) _ pr.2.1
  have oth : Th H v → (∀ q xs, v = .ref q → H q ≠ some (.lst xs) ∧ H q ≠ some (.tup xs)) → ∃ u : Option (List El), Pas a H v u ∧ ∀ rows, ¬ ∃ es, u = some es ∧ prP rows es := fun h n => ⟨none, .oth h n, fun rows ⟨es, e, _⟩ => by cases e⟩
  cases o with
  | non => exact oth .non fun q xs e => by cases e
  | bl b => exact oth (.bl b) fun q xs e => by cases e
  | int i => exact oth (.int i) fun q xs e => by cases e
  | str z hz => exact oth (.str z) fun q xs e => by cases e
  | tup ne h hn => exact seq _ _ 1 hn (.inr h)
  | lst ne h hn => exact seq _ _ 2 hn (.inl h)
  | dK ne h =>
    refine oth (.dK h) fun q xs e => ?_
    rw [← V.ref.inj e, h]
    exact ⟨(fun z => by cases z), (fun z => by cases z)⟩
theorem sm_pair {H : Hp} {r t : Addr} {x y : Str} (h : H r = some (.tup [.str x, .str y])) (h' : H t = some (.tup [.str x, .str y])) : Sm H 3 (.ref r) (.ref t) := by
  refine .inr ⟨r, t, _, _, rfl, rfl, .inl ⟨h, h'⟩, rfl, (by show 2 ≤ 1000; decide), fun i u v e1 e2 => ?_⟩
  rw [e1] at e2
  cases e2
  match i, e1 with
  | 0, e => cases e; exact .inl ⟨rfl, rfl⟩
  | 1, e => cases e; exact .inl ⟨rfl, rfl⟩
  | k + 2, e => cases e
def spLaw (K : PySem.W.Frag) : Sp := fun vs H Q _ => ∃ (s : Addr) (ns : List Int), vs = [.ref s] ∧ SqL K H s (ns.map V.int) ∧ ns.length ≤ 63 ∧ ∀ H', Q (.bl true) H'
theorem ok_law (T : Txt K mg a) : FnOk P w K mg base CX0 9 a.law.f a.law.fd ["_law_script"] (spLaw K) := by
  have G__law_start : FnOk P w K mg base CX0 1 a._law_start.f a._law_start.fd ["_law_script"] (spStart K) := ok_start T
  have G__law_pull : FnOk P w K mg base CX0 1 a._law_pull.f a._law_pull.fd ["_law_state", "_law_many"] spPull := ok_pull T
  have G__law_odd : FnOk P w K mg base CX0 2 a._law_odd.f a._law_odd.fd ["_law_state"] spOdd := ok_odd T
  have G__law_rows : FnOk P w K mg base CX0 4 a._law_rows.f a._law_rows.fd ["_law_state", "_law_rows_here"] spRows := ok_rows T
  have G__law_one : FnOk P w K mg base CX0 7 a._law_one.f a._law_one.fd ["_law_rows_here", "_law_entry"] (spOne a) := ok_one T
  have G__law_plain : FnOk P w K mg base CX0 1 a._law_plain.f a._law_plain.fd ["_law_rows_here", "_law_entry"] spPlain := ok_plain T
  have G__law_good : FnOk P w K mg base CX0 1 a._law_good.f a._law_good.fd ["_law_rows_here", "_law_plain_here"] spGood := ok_good T
  have G__law_told : FnOk P w K mg base CX0 7 a._law_told.f a._law_told.fd ["_law_rows_here", "_law_passed"] (spTold a) := ok_told T
  have G__law_kept : FnOk P w K mg base CX0 8 a._law_kept.f a._law_kept.fd ["_law_rows_here", "_law_given", "_law_plain_here", "_law_told_here"] (spKept a) := ok_kept T
  have G__law_after_change : FnOk P w K mg base CX0 8 a._law_after_change.f a._law_after_change.fd ["_law_rows_here", "_law_given"] (spAfter a) := ok_after T
  have G__law_same : FnOk P w K mg base CX0 5 a._law_same.f a._law_same.fd ["_law_told_here", "_law_due"] (spSame 3) := ok_same T 3
  have sc : FnScope ["_law_script", "_law_state", "_law_rows_here", "_law_given", "_law_shape", "_law_wrong", "_law_passed", "_law_entry", "_law_told_here", "_law_plain_here"] ["_law_script"] (defScope (top 48)) := ⟨rfl, rfl, rfl, by decide +kernel, rfl, by decide +kernel, by decide +kernel⟩
  refine T.law.ok sc (fun vs H Q E h => ?_) (fun cdv A outer s H vs Q E hr h => ?_)
  · obtain ⟨p, _, rfl, _⟩ := h
    rfl
  · obtain ⟨sa, ns, rfl, hS, hn, k⟩ := h
    refine ⟨_, (pss_cons (ps_set (i := 1) sc.nd rfl (by first | exact Or.inl rfl | exact Or.inr rfl) (pe_call G__law_start (hr.mono (by first | decide | omega)) rfl T._law_start.mg T._law_start.kp T._law_start.b .nil pass0 (pa_cons (pv 0) pa_nil)))
      (pss_cons (ps_for PassesOwn.never rfl (pi_list (pe_lst (pa_cons pe_bl (pa_cons pe_bl (pa_cons pe_bl (pa_cons pe_bl pa_nil)))))) (pg_name (i := 2) sc.nd rfl (by first | exact Or.inl rfl | exact Or.inr rfl))
      (pss_cons (ps_set (i := 3) sc.nd rfl (by first | exact Or.inl rfl | exact Or.inr rfl) (pe_call G__law_rows (hr.mono (by first | decide | omega)) rfl T._law_rows.mg T._law_rows.kp T._law_rows.b .nil pass0 (pa_cons (pv 1) (pa_cons (pv 2) pa_nil))))
      (pss_cons (ps_set (i := 4) sc.nd rfl (by first | exact Or.inl rfl | exact Or.inr rfl) (pe_call G__law_pull (hr.mono (by first | decide | omega)) rfl T._law_pull.mg T._law_pull.kp T._law_pull.b .nil pass0 (pa_cons (pv 1) (pa_cons pe_int pa_nil))))
      (pss_cons (ps_set (i := 5) sc.nd rfl (by first | exact Or.inl rfl | exact Or.inr rfl) (pe_tup (pa_cons pe_str (pa_cons (pe_ix ix_list (pe_lst (pa_cons pe_str (pa_cons pe_str pa_nil))) (pe_callTy call_int1 (by rfl) T.int (by decide +kernel) (pa_cons (pv 2) pa_nil)) (fun _ _ => rfl)) pa_nil))))
      (pss_cons (ps_if (PW.pt (pw_and (pt_cmpR op_eq (pv 4) pe_int (nomark _)) (pw_and1 (pt_not (pt_val (pe_call G__law_same (hr.mono (by first | decide | omega)) rfl T._law_same.mg T._law_same.kp T._law_same.b .nil pass0 (pa_cons (pe_call G__law_told (hr.mono (by first | decide | omega)) rfl T._law_told.mg T._law_told.kp T._law_told.b .nil pass0 (pa_cons (pv 2) (pa_cons (pe_call G__law_odd (hr.mono (by first | decide | omega)) rfl T._law_odd.mg T._law_odd.kp T._law_odd.b .nil pass0 (pa_cons (pv 1) pa_nil)) pa_nil))) (pa_cons (pv 5) pa_nil))))))))
      (pss_one (ps_ret pe_bl))
      pss_nil)
      (pss_cons (ps_setLc (te := tCall (spOne a) [] E0 (tCons (tVar 2) (tCons (tVar 7) tNil))) (i := 6) (own := [("_law_entry", 7)]) (g := gName 7) (by rfl) sc.nd rfl rfl (sw_true rfl rfl rfl (by decide +kernel)) (pi_sqv (pv 3)) (blkOk_by (own := [("_law_entry", 7)]) (N := ["_law_script", "_law_state", "_law_rows_here", "_law_given", "_law_shape", "_law_wrong", "_law_passed", "_law_entry", "_law_told_here", "_law_plain_here"]) (sc := defScope (top 48)) (by decide +kernel)) (fun _ _ _ _ _ => pg_name (i := 7) sc.nd rfl (Or.inl rfl)) (fun _ _ _ _ _ => pts_nil) (fun _ _ _ _ _ => (by exact (pe_call G__law_one (hr.mono (by first | decide | omega)) rfl T._law_one.mg T._law_one.kp T._law_one.b .nil pass0 (pa_cons (pv 2) (pa_cons (pv 7) pa_nil))))))
      (pss_cons (ps_if (pt_cmpR op_lt (pv 4) pe_int (nomark _))
      (pss_one (ps_set (i := 6) sc.nd rfl (by first | exact Or.inl rfl | exact Or.inr rfl) (pe_callTy call_tuple_of (by rfl) T.tuple (by decide +kernel) (pa_cons (pv 6) pa_nil))))
      pss_nil)
      (pss_cons (ps_set (i := 8) sc.nd rfl (by first | exact Or.inl rfl | exact Or.inr rfl) (pe_call G__law_told (hr.mono (by first | decide | omega)) rfl T._law_told.mg T._law_told.kp T._law_told.b .nil pass0 (pa_cons (pv 2) (pa_cons (pv 6) pa_nil))))
      (pss_cons (ps_setLc (te := tCall spPlain [] E0 (tCons (tVar 2) (tCons (tVar 7) tNil))) (i := 9) (own := [("_law_entry", 7)]) (g := gName 7) (by rfl) sc.nd rfl rfl (sw_true rfl rfl rfl (by decide +kernel)) (pi_sqv (pv 3)) (blkOk_by (own := [("_law_entry", 7)]) (N := ["_law_script", "_law_state", "_law_rows_here", "_law_given", "_law_shape", "_law_wrong", "_law_passed", "_law_entry", "_law_told_here", "_law_plain_here"]) (sc := defScope (top 48)) (by decide +kernel)) (fun _ _ _ _ _ => pg_name (i := 7) sc.nd rfl (Or.inl rfl)) (fun _ _ _ _ _ => pts_nil) (fun _ _ _ _ _ => (by exact (pe_call G__law_plain (hr.mono (by first | decide | omega)) rfl T._law_plain.mg T._law_plain.kp T._law_plain.b .nil pass0 (pa_cons (pv 2) (pa_cons (pv 7) pa_nil))))))
      (pss_cons (ps_if (pt_not (pt_val (pe_call G__law_good (hr.mono (by first | decide | omega)) rfl T._law_good.mg T._law_good.kp T._law_good.b .nil pass0 (pa_cons (pv 2) (pa_cons (pv 9) pa_nil)))))
      (pss_cons (ps_if (pt_not (pt_val (pe_call G__law_same (hr.mono (by first | decide | omega)) rfl T._law_same.mg T._law_same.kp T._law_same.b .nil pass0 (pa_cons (pv 8) (pa_cons (pv 5) pa_nil)))))
      (pss_one (ps_ret pe_bl))
      pss_nil)
      (pss_one ps_continue))
      pss_nil)
      (pss_cons (ps_if (PW.pt (pw_or (pt_cmpR op_ne (pe_ix ix_tup (pv 8) pe_int (fun _ _ => rfl)) pe_str (nomark _)) (pw_or1 (pt_not (pt_val (pe_call G__law_kept (hr.mono (by first | decide | omega)) rfl T._law_kept.mg T._law_kept.kp T._law_kept.b .nil pass0 (pa_cons (pv 2) (pa_cons (pv 3) (pa_cons (pv 9) (pa_cons (pe_ix ix_tup (pv 8) pe_int (fun _ _ => rfl)) pa_nil))))))))))
      (pss_one (ps_ret pe_bl))
      pss_nil)
      (pss_one (ps_if (pt_not (pt_val (pe_call G__law_kept (hr.mono (by first | decide | omega)) rfl T._law_kept.mg T._law_kept.kp T._law_kept.b .nil pass0 (pa_cons (pv 2) (pa_cons (pv 3) (pa_cons (pv 9) (pa_cons (pe_call G__law_after_change (hr.mono (by first | decide | omega)) rfl T._law_after_change.mg T._law_after_change.kp T._law_after_change.b .nil pass0 (pa_cons (pv 2) (pa_cons (pv 3) pa_nil))) pa_nil)))))))
      (pss_one (ps_ret pe_bl))
      pss_nil)))))))))))))
      (pss_one (ps_ret pe_bl)))), ?_⟩
    walk_at "go"
    refine ⟨sa, ns, rfl, hS, hn, fun p H1 np S1 _ => ?_⟩
    walk_at "go"
    refine ⟨by decide, fun L nL => ⟨L, rfl, ⟨_, SqL.of upd_same⟩, ?_⟩⟩
    have hL := upd_same (H := H1) (a := L) (o := .lst [.bl false, .bl true, .bl false, .bl true])
    have WL : Went p H1 (upd H1 L (.lst [.bl false, .bl true, .bl false, .bl true])) := (Went.rfl' S1).new nL
    have Lp : L ≠ p := S1.ne nL
    have SL := WL.1
    generalize upd H1 L (.lst [.bl false, .bl true, .bl false, .bl true]) = HL at hL WL SL ⊢
    refine for_list (xs := [.bl false, .bl true, .bl false, .bl true]) (fun i σ H' => (∃ v2 v3 v4 v5 v6 v7 v8 v9, σ = [some (.ref sa), some (.ref p), v2, v3, v4, v5, v6, v7, v8, v9]) ∧ Went p HL H') ⟨⟨_, _, _, _, _, _, _, _, rfl⟩, Went.rfl' SL⟩ ?_ ?_ ?_
    · rintro i σ H2 _ ⟨_, W2⟩
      exact SqL.of (W2.get Lp hL)
    · rintro i x σ H2 hx ⟨⟨v2, v3, v4, v5, v6, v7, v8, v9, rfl⟩, W2⟩
      obtain ⟨rows, rfl⟩ : ∃ rows, x = .bl rows := by
        have := List.mem_of_getElem? hx
        simp only [List.mem_cons, List.not_mem_nil, or_false] at this
        rcases this with h | h | h | h <;> exact ⟨_, h⟩
      walk_at "go"
      refine ⟨p, rows, rfl, W2.1, fun P es H3 E3 l13 => ?_⟩
      have W3 := W2.trans E3.w
      have sm : es.length ≤ 100 := by omega
      walk_at "go"
      refine ⟨p, _, rfl, W3.1, by decide, by decide, fun r8 H4 r0 r1 W4 => ?_⟩
      have E4 := E3.went W4
      have W4' := W3.trans W4
      have G4 := E4.giv
      walk_at "go"
      rename_i n1 nn1
      have s1 := same_new (o := .lst [.str "ways", .str "parts"]) same_rfl nn1
      have hn1 := upd_same (H := H4) (a := n1) (o := .lst [.str "ways", .str "parts"])
      generalize upd H4 n1 (.lst [.str "ways", .str "parts"]) = H5 at s1 hn1 ⊢
      refine .inr ⟨rows, rfl, ?_⟩
      have ev : atI [V.str "ways", .str "parts"] (if rows = true then 1 else 0) = some (.str (fldOf rows)) := by cases rows <;> rfl
      refine i_ixl hn1 ev ?_
      walk_at "go"
      rename_i wt nwt
      have s2 := same_new (o := .tup [.str "refused", .str (fldOf rows)]) s1 nwt
      have wt5 := upd_same (H := H5) (a := wt) (o := .tup [.str "refused", .str (fldOf rows)])
      have W5 : Went p HL (upd H5 wt (.tup [.str "refused", .str (fldOf rows)])) := W4'.trans (went_same W4'.1 s2)
      have G5 := G4.same s2
      have E5 := E4.went (went_same W4'.1 s2)
      have wtp : wt ≠ p := by
        intro e
        obtain ⟨L0, ns0, i0, x0, c0, e0, _⟩ := W4'.1
        rw [e, s1 _ _ e0] at nwt; cases nwt
      generalize upd H5 wt (.tup [.str "refused", .str (fldOf rows)]) = H5 at wt5 W5 G5 E5 ⊢
      refine i_itd (fun h0 => ?_) (fun h0 => ?_)
      · walk_at "go"
        refine ⟨p, rfl, W5.1, fun v H6 od W6 => ?_⟩
        walk_at "go"
        obtain ⟨u, pu, nu⟩ := odd_pas (a := a) od
        refine ⟨rows, v, u, rfl, pu, fun es' e q => absurd ⟨es', e, q⟩ (nu rows), fun _ r H7 s7 hr => ?_⟩
        walk_at "go"
        have wt7 := s7 _ _ (W6.get wtp wt5)
        refine ⟨.ref r, .ref wt, rfl, sm_pair hr wt7, ?_⟩
        refine ⟨_, rfl, i_no rfl ?_⟩
        have E7 := (E5.went W6).went (went_same W6.1 s7)
        have W5 : Went p HL H7 := (W5.trans W6).trans (went_same W6.1 s7)
        have G5 := E7.giv
        have wt5 := wt7
        generalize H7 = H5 at W5 G5 wt5 ⊢
        walk_at "go"
        refine ones_lc (rows := rows) rfl G5 sm (fun _ => rfl) (fun _ => rfl) (fun _ => rfl) fun D els H6 nD s6 hD al6 => ?_
        have W6 : Went p HL H6 := W5.trans (went_same W5.1 s6)
        have G6 := G5.same s6
        have wt6 := s6 _ _ wt5
        walk_at "go"
        refine i_itd (fun h4 => ?_) (fun h4 => ?_)
        · walk_at "go"
          refine ⟨D, _, rfl, .inl ⟨SqL.of hD, fun D' nD' => ?_⟩⟩
          have sD := same_new (o := .tup (els.map (·.v))) same_rfl nD'
          have hD' : LT (upd H6 D' (.tup (els.map (·.v)))) D' (els.map (·.v)) := .inr upd_same
          have W6 := W6.trans (went_same W6.1 sD)
          have G6 := G6.same sD
          have wt6 := sD _ _ wt6
          have al6 := al6.soft (Same.soft sD)
          generalize upd H6 D' (.tup (els.map (·.v))) = H6 at hD' W6 G6 wt6 al6 ⊢
          walk_at "go"
          by_cases pr : prP rows els
          · have good := (pr_good al6 fun q mq => (G6.e q mq).2).mp pr
            refine ⟨rows, .ref D', some els, rfl, al6.pas hD' sm, fun es' e _ r t H7 s7 hr ht => ?_, fun no => absurd ⟨els, rfl, pr⟩ no⟩
            cases e
            walk_at "go"
            refine plains_lc (rows := rows) rfl (G6.same s7) sm (fun _ => rfl) (fun _ => rfl) (fun _ => rfl) fun D2 xs H8 nD2 s8 hD2 hl hx => ?_
            walk_at "go"
            refine ⟨rows, D2, xs, es.map (t3 rows), rfl, hD2, by rw [List.length_map]; exact hl, by rw [List.length_map]; exact sm, fun i v hv => ?_, fun b H9 hb s9 => ?_⟩
            · obtain ⟨q, hq, pq⟩ := hx i v hv
              exact ⟨t3 rows q, by rw [List.getElem?_map, hq]; rfl, pq⟩
            have b1 : b = true := hb.mpr good
            subst b1
            refine ⟨_, rfl, i_no rfl ?_⟩
            have hr9 := s9 _ _ (s8 _ _ hr)
            have ht9 := s9 _ _ (s8 _ _ ht)
            have s69 : Same H6 H9 := (s7.trans s8).trans s9
            have pl : ∀ q ∈ es, plainT rows q.2 ≤ 1 := fun q mq => good.2.1 _ (List.mem_map.mpr ⟨q, mq, rfl⟩)
            have hx9 : ∀ H', Same H9 H' → ∀ (i : Nat) v, xs[i]? = some v → ∃ q, es[i]? = some q ∧ PlAt H' v (plainT rows q.2) q.2.w q.2.n := fun H' s i v hv => by
              obtain ⟨q, h1, h2⟩ := hx i v hv
              exact ⟨q, h1, (h2.same s9).same s⟩
            walk_at "go"
            refine i_no (by rw [decide_eq_true rfl]; rfl) ?_
            walk_at "go"
            refine ⟨rows, P, D2, t, es, xs, els, rfl, G6.same s69, sm, s9 _ _ hD2, hl, hx9 H9 same_rfl, ht9, al6.soft (Same.soft s69), pl, fun H10 s10 => ?_⟩
            refine ⟨_, rfl, i_no rfl ?_⟩
            walk_at "go"
            refine ⟨rows, P, es, rfl, G6.same (s69.trans s10), sm, fun els2 H' al2 => (pr_good al2 fun q mq => (G6.e q mq).2).mpr good, fun t2 els2 H11 s11 ht2 al2 => ?_⟩
            walk_at "go"
            refine ⟨rows, P, D2, t2, es, xs, els2, rfl, G6.same ((s69.trans s10).trans s11), sm, s11 _ _ (s10 _ _ (s9 _ _ hD2)), hl, hx9 H11 (s10.trans s11), ht2, al2, pl, fun H12 s12 => ?_⟩
            refine ⟨_, rfl, i_no rfl ?_⟩
            exact ⟨⟨_, _, _, _, _, _, _, _, rfl⟩, W6.trans (went_same W6.1 (((s69.trans s10).trans s11).trans s12))⟩
          · refine ⟨rows, .ref D', some els, rfl, al6.pas hD' sm, fun es' e q => absurd (by cases e; exact q) pr, fun _ r H7 s7 hr => ?_⟩
            walk_at "go"
            refine plains_lc (rows := rows) rfl (G6.same s7) sm (fun _ => rfl) (fun _ => rfl) (fun _ => rfl) fun D2 xs H8 nD2 s8 hD2 hl hx => ?_
            walk_at "go"
            refine ⟨rows, D2, xs, es.map (t3 rows), rfl, hD2, by rw [List.length_map]; exact hl, by rw [List.length_map]; exact sm, fun i v hv => ?_, fun b H9 hb s9 => ?_⟩
            · obtain ⟨q, hq, pq⟩ := hx i v hv
              exact ⟨t3 rows q, by rw [List.getElem?_map, hq]; rfl, pq⟩
            have b1 : b = false := by
              cases b with
              | false => rfl
              | true => exact absurd ((pr_good al6 fun q mq => (G6.e q mq).2).mpr (hb.mp rfl)) pr
            subst b1
            refine ⟨_, rfl, i_yes rfl ?_⟩
            walk_at "go"
            have s69 : Same H6 H9 := (s7.trans s8).trans s9
            refine ⟨.ref r, .ref wt, rfl, sm_pair (s9 _ _ (s8 _ _ hr)) (s69 _ _ wt6), ?_⟩
            refine ⟨_, rfl, i_no rfl ?_⟩
            exact ⟨⟨_, _, _, _, _, _, _, _, rfl⟩, W6.trans (went_same W6.1 s69)⟩
        · have hD' : LT H6 D (els.map (·.v)) := .inl hD
          generalize D = D' at hD' ⊢
          walk_at "go"
          by_cases pr : prP rows els
          · have good := (pr_good al6 fun q mq => (G6.e q mq).2).mp pr
            refine ⟨rows, .ref D', some els, rfl, al6.pas hD' sm, fun es' e _ r t H7 s7 hr ht => ?_, fun no => absurd ⟨els, rfl, pr⟩ no⟩
            cases e
            walk_at "go"
            refine plains_lc (rows := rows) rfl (G6.same s7) sm (fun _ => rfl) (fun _ => rfl) (fun _ => rfl) fun D2 xs H8 nD2 s8 hD2 hl hx => ?_
            walk_at "go"
            refine ⟨rows, D2, xs, es.map (t3 rows), rfl, hD2, by rw [List.length_map]; exact hl, by rw [List.length_map]; exact sm, fun i v hv => ?_, fun b H9 hb s9 => ?_⟩
            · obtain ⟨q, hq, pq⟩ := hx i v hv
              exact ⟨t3 rows q, by rw [List.getElem?_map, hq]; rfl, pq⟩
            have b1 : b = true := hb.mpr good
            subst b1
            refine ⟨_, rfl, i_no rfl ?_⟩
            have hr9 := s9 _ _ (s8 _ _ hr)
            have ht9 := s9 _ _ (s8 _ _ ht)
            have s69 : Same H6 H9 := (s7.trans s8).trans s9
            have pl : ∀ q ∈ es, plainT rows q.2 ≤ 1 := fun q mq => good.2.1 _ (List.mem_map.mpr ⟨q, mq, rfl⟩)
            have hx9 : ∀ H', Same H9 H' → ∀ (i : Nat) v, xs[i]? = some v → ∃ q, es[i]? = some q ∧ PlAt H' v (plainT rows q.2) q.2.w q.2.n := fun H' s i v hv => by
              obtain ⟨q, h1, h2⟩ := hx i v hv
              exact ⟨q, h1, (h2.same s9).same s⟩
            walk_at "go"
            refine i_no (by rw [decide_eq_true rfl]; rfl) ?_
            walk_at "go"
            refine ⟨rows, P, D2, t, es, xs, els, rfl, G6.same s69, sm, s9 _ _ hD2, hl, hx9 H9 same_rfl, ht9, al6.soft (Same.soft s69), pl, fun H10 s10 => ?_⟩
            refine ⟨_, rfl, i_no rfl ?_⟩
            walk_at "go"
            refine ⟨rows, P, es, rfl, G6.same (s69.trans s10), sm, fun els2 H' al2 => (pr_good al2 fun q mq => (G6.e q mq).2).mpr good, fun t2 els2 H11 s11 ht2 al2 => ?_⟩
            walk_at "go"
            refine ⟨rows, P, D2, t2, es, xs, els2, rfl, G6.same ((s69.trans s10).trans s11), sm, s11 _ _ (s10 _ _ (s9 _ _ hD2)), hl, hx9 H11 (s10.trans s11), ht2, al2, pl, fun H12 s12 => ?_⟩
            refine ⟨_, rfl, i_no rfl ?_⟩
            exact ⟨⟨_, _, _, _, _, _, _, _, rfl⟩, W6.trans (went_same W6.1 (((s69.trans s10).trans s11).trans s12))⟩
          · refine ⟨rows, .ref D', some els, rfl, al6.pas hD' sm, fun es' e q => absurd (by cases e; exact q) pr, fun _ r H7 s7 hr => ?_⟩
            walk_at "go"
            refine plains_lc (rows := rows) rfl (G6.same s7) sm (fun _ => rfl) (fun _ => rfl) (fun _ => rfl) fun D2 xs H8 nD2 s8 hD2 hl hx => ?_
            walk_at "go"
            refine ⟨rows, D2, xs, es.map (t3 rows), rfl, hD2, by rw [List.length_map]; exact hl, by rw [List.length_map]; exact sm, fun i v hv => ?_, fun b H9 hb s9 => ?_⟩
            · obtain ⟨q, hq, pq⟩ := hx i v hv
              exact ⟨t3 rows q, by rw [List.getElem?_map, hq]; rfl, pq⟩
            have b1 : b = false := by
              cases b with
              | false => rfl
              | true => exact absurd ((pr_good al6 fun q mq => (G6.e q mq).2).mpr (hb.mp rfl)) pr
            subst b1
            refine ⟨_, rfl, i_yes rfl ?_⟩
            walk_at "go"
            have s69 : Same H6 H9 := (s7.trans s8).trans s9
            refine ⟨.ref r, .ref wt, rfl, sm_pair (s9 _ _ (s8 _ _ hr)) (s69 _ _ wt6), ?_⟩
            refine ⟨_, rfl, i_no rfl ?_⟩
            exact ⟨⟨_, _, _, _, _, _, _, _, rfl⟩, W6.trans (went_same W6.1 s69)⟩
      · skip
        walk_at "go"
        refine ones_lc (rows := rows) rfl G5 sm (fun _ => rfl) (fun _ => rfl) (fun _ => rfl) fun D els H6 nD s6 hD al6 => ?_
        have W6 : Went p HL H6 := W5.trans (went_same W5.1 s6)
        have G6 := G5.same s6
        have wt6 := s6 _ _ wt5
        walk_at "go"
        refine i_itd (fun h4 => ?_) (fun h4 => ?_)
        · walk_at "go"
          refine ⟨D, _, rfl, .inl ⟨SqL.of hD, fun D' nD' => ?_⟩⟩
          have sD := same_new (o := .tup (els.map (·.v))) same_rfl nD'
          have hD' : LT (upd H6 D' (.tup (els.map (·.v)))) D' (els.map (·.v)) := .inr upd_same
          have W6 := W6.trans (went_same W6.1 sD)
          have G6 := G6.same sD
          have wt6 := sD _ _ wt6
          have al6 := al6.soft (Same.soft sD)
          generalize upd H6 D' (.tup (els.map (·.v))) = H6 at hD' W6 G6 wt6 al6 ⊢
          walk_at "go"
          by_cases pr : prP rows els
          · have good := (pr_good al6 fun q mq => (G6.e q mq).2).mp pr
            refine ⟨rows, .ref D', some els, rfl, al6.pas hD' sm, fun es' e _ r t H7 s7 hr ht => ?_, fun no => absurd ⟨els, rfl, pr⟩ no⟩
            cases e
            walk_at "go"
            refine plains_lc (rows := rows) rfl (G6.same s7) sm (fun _ => rfl) (fun _ => rfl) (fun _ => rfl) fun D2 xs H8 nD2 s8 hD2 hl hx => ?_
            walk_at "go"
            refine ⟨rows, D2, xs, es.map (t3 rows), rfl, hD2, by rw [List.length_map]; exact hl, by rw [List.length_map]; exact sm, fun i v hv => ?_, fun b H9 hb s9 => ?_⟩
            · obtain ⟨q, hq, pq⟩ := hx i v hv
              exact ⟨t3 rows q, by rw [List.getElem?_map, hq]; rfl, pq⟩
            have b1 : b = true := hb.mpr good
            subst b1
            refine ⟨_, rfl, i_no rfl ?_⟩
            have hr9 := s9 _ _ (s8 _ _ hr)
            have ht9 := s9 _ _ (s8 _ _ ht)
            have s69 : Same H6 H9 := (s7.trans s8).trans s9
            have pl : ∀ q ∈ es, plainT rows q.2 ≤ 1 := fun q mq => good.2.1 _ (List.mem_map.mpr ⟨q, mq, rfl⟩)
            have hx9 : ∀ H', Same H9 H' → ∀ (i : Nat) v, xs[i]? = some v → ∃ q, es[i]? = some q ∧ PlAt H' v (plainT rows q.2) q.2.w q.2.n := fun H' s i v hv => by
              obtain ⟨q, h1, h2⟩ := hx i v hv
              exact ⟨q, h1, (h2.same s9).same s⟩
            walk_at "go"
            refine i_no (by rw [decide_eq_true rfl]; rfl) ?_
            walk_at "go"
            refine ⟨rows, P, D2, t, es, xs, els, rfl, G6.same s69, sm, s9 _ _ hD2, hl, hx9 H9 same_rfl, ht9, al6.soft (Same.soft s69), pl, fun H10 s10 => ?_⟩
            refine ⟨_, rfl, i_no rfl ?_⟩
            walk_at "go"
            refine ⟨rows, P, es, rfl, G6.same (s69.trans s10), sm, fun els2 H' al2 => (pr_good al2 fun q mq => (G6.e q mq).2).mpr good, fun t2 els2 H11 s11 ht2 al2 => ?_⟩
            walk_at "go"
            refine ⟨rows, P, D2, t2, es, xs, els2, rfl, G6.same ((s69.trans s10).trans s11), sm, s11 _ _ (s10 _ _ (s9 _ _ hD2)), hl, hx9 H11 (s10.trans s11), ht2, al2, pl, fun H12 s12 => ?_⟩
            refine ⟨_, rfl, i_no rfl ?_⟩
            exact ⟨⟨_, _, _, _, _, _, _, _, rfl⟩, W6.trans (went_same W6.1 (((s69.trans s10).trans s11).trans s12))⟩
          · refine ⟨rows, .ref D', some els, rfl, al6.pas hD' sm, fun es' e q => absurd (by cases e; exact q) pr, fun _ r H7 s7 hr => ?_⟩
            walk_at "go"
            refine plains_lc (rows := rows) rfl (G6.same s7) sm (fun _ => rfl) (fun _ => rfl) (fun _ => rfl) fun D2 xs H8 nD2 s8 hD2 hl hx => ?_
            walk_at "go"
            refine ⟨rows, D2, xs, es.map (t3 rows), rfl, hD2, by rw [List.length_map]; exact hl, by rw [List.length_map]; exact sm, fun i v hv => ?_, fun b H9 hb s9 => ?_⟩
            · obtain ⟨q, hq, pq⟩ := hx i v hv
              exact ⟨t3 rows q, by rw [List.getElem?_map, hq]; rfl, pq⟩
            have b1 : b = false := by
              cases b with
              | false => rfl
              | true => exact absurd ((pr_good al6 fun q mq => (G6.e q mq).2).mpr (hb.mp rfl)) pr
            subst b1
            refine ⟨_, rfl, i_yes rfl ?_⟩
            walk_at "go"
            have s69 : Same H6 H9 := (s7.trans s8).trans s9
            refine ⟨.ref r, .ref wt, rfl, sm_pair (s9 _ _ (s8 _ _ hr)) (s69 _ _ wt6), ?_⟩
            refine ⟨_, rfl, i_no rfl ?_⟩
            exact ⟨⟨_, _, _, _, _, _, _, _, rfl⟩, W6.trans (went_same W6.1 s69)⟩
        · have hD' : LT H6 D (els.map (·.v)) := .inl hD
          generalize D = D' at hD' ⊢
          walk_at "go"
          by_cases pr : prP rows els
          · have good := (pr_good al6 fun q mq => (G6.e q mq).2).mp pr
            refine ⟨rows, .ref D', some els, rfl, al6.pas hD' sm, fun es' e _ r t H7 s7 hr ht => ?_, fun no => absurd ⟨els, rfl, pr⟩ no⟩
            cases e
            walk_at "go"
            refine plains_lc (rows := rows) rfl (G6.same s7) sm (fun _ => rfl) (fun _ => rfl) (fun _ => rfl) fun D2 xs H8 nD2 s8 hD2 hl hx => ?_
            walk_at "go"
            refine ⟨rows, D2, xs, es.map (t3 rows), rfl, hD2, by rw [List.length_map]; exact hl, by rw [List.length_map]; exact sm, fun i v hv => ?_, fun b H9 hb s9 => ?_⟩
            · obtain ⟨q, hq, pq⟩ := hx i v hv
              exact ⟨t3 rows q, by rw [List.getElem?_map, hq]; rfl, pq⟩
            have b1 : b = true := hb.mpr good
            subst b1
            refine ⟨_, rfl, i_no rfl ?_⟩
            have hr9 := s9 _ _ (s8 _ _ hr)
            have ht9 := s9 _ _ (s8 _ _ ht)
            have s69 : Same H6 H9 := (s7.trans s8).trans s9
            have pl : ∀ q ∈ es, plainT rows q.2 ≤ 1 := fun q mq => good.2.1 _ (List.mem_map.mpr ⟨q, mq, rfl⟩)
            have hx9 : ∀ H', Same H9 H' → ∀ (i : Nat) v, xs[i]? = some v → ∃ q, es[i]? = some q ∧ PlAt H' v (plainT rows q.2) q.2.w q.2.n := fun H' s i v hv => by
              obtain ⟨q, h1, h2⟩ := hx i v hv
              exact ⟨q, h1, (h2.same s9).same s⟩
            walk_at "go"
            refine i_no (by rw [decide_eq_true rfl]; rfl) ?_
            walk_at "go"
            refine ⟨rows, P, D2, t, es, xs, els, rfl, G6.same s69, sm, s9 _ _ hD2, hl, hx9 H9 same_rfl, ht9, al6.soft (Same.soft s69), pl, fun H10 s10 => ?_⟩
            refine ⟨_, rfl, i_no rfl ?_⟩
            walk_at "go"
            refine ⟨rows, P, es, rfl, G6.same (s69.trans s10), sm, fun els2 H' al2 => (pr_good al2 fun q mq => (G6.e q mq).2).mpr good, fun t2 els2 H11 s11 ht2 al2 => ?_⟩
            walk_at "go"
            refine ⟨rows, P, D2, t2, es, xs, els2, rfl, G6.same ((s69.trans s10).trans s11), sm, s11 _ _ (s10 _ _ (s9 _ _ hD2)), hl, hx9 H11 (s10.trans s11), ht2, al2, pl, fun H12 s12 => ?_⟩
            refine ⟨_, rfl, i_no rfl ?_⟩
            exact ⟨⟨_, _, _, _, _, _, _, _, rfl⟩, W6.trans (went_same W6.1 (((s69.trans s10).trans s11).trans s12))⟩
          · refine ⟨rows, .ref D', some els, rfl, al6.pas hD' sm, fun es' e q => absurd (by cases e; exact q) pr, fun _ r H7 s7 hr => ?_⟩
            walk_at "go"
            refine plains_lc (rows := rows) rfl (G6.same s7) sm (fun _ => rfl) (fun _ => rfl) (fun _ => rfl) fun D2 xs H8 nD2 s8 hD2 hl hx => ?_
            walk_at "go"
            refine ⟨rows, D2, xs, es.map (t3 rows), rfl, hD2, by rw [List.length_map]; exact hl, by rw [List.length_map]; exact sm, fun i v hv => ?_, fun b H9 hb s9 => ?_⟩
            · obtain ⟨q, hq, pq⟩ := hx i v hv
              exact ⟨t3 rows q, by rw [List.getElem?_map, hq]; rfl, pq⟩
            have b1 : b = false := by
              cases b with
              | false => rfl
              | true => exact absurd ((pr_good al6 fun q mq => (G6.e q mq).2).mpr (hb.mp rfl)) pr
            subst b1
            refine ⟨_, rfl, i_yes rfl ?_⟩
            walk_at "go"
            have s69 : Same H6 H9 := (s7.trans s8).trans s9
            refine ⟨.ref r, .ref wt, rfl, sm_pair (s9 _ _ (s8 _ _ hr)) (s69 _ _ wt6), ?_⟩
            refine ⟨_, rfl, i_no rfl ?_⟩
            exact ⟨⟨_, _, _, _, _, _, _, _, rfl⟩, W6.trans (went_same W6.1 s69)⟩
    · rintro σ H2 ⟨⟨v2, v3, v4, v5, v6, v7, v8, v9, rfl⟩, W2⟩
      walk_at "go"
      exact k _
end
end Me
set_option maxHeartbeats 8000000
namespace Me
open PySem L2
/-! ### from the head's facts -/
theorem eqB_ok {a b : Option Bool} (h : eqB a b = true) : a = b := of_decide_eq_true h
theorem oexB_ok {K : PySem.W.Frag} {C : Addr} (h : oexB K C = true) : ∃ nm q N bs bm sn sub ab col dd k0 k1 k2 k3 k5, K.lookup C = some (excClassObj nm q C N bs bm true sn sub ab col dd k0 k1 k2 k3 k5 "ValueError.__new__") ∧ PySem.HandSPX.refsVE bm = true := by
  unfold oexB at h
  split at h
  · rename_i dd cd sl lk
    split at h
    · rename_i C' bm k0 k1 k2 k3 n k5 em es
      simp only [Bool.and_eq_true, beq_iff_eq, Bool.not_eq_true'] at h
      obtain ⟨rfl, rfl, nd, hd, ht⟩ := h
      obtain ⟨nm, bs, mro, ns, qn, hdc, sn, sub, ab, col, del⟩ := cd
      dsimp only at em nd hd
      subst em nd hd
      have esl : sl = #[k0, k1, k2, k3, some (.builtin "ValueError.__new__"), k5] := by
        obtain ⟨l⟩ := sl
        exact congrArg Array.mk es
      subst esl
      exact ⟨nm, qn, ns, bs, bm, sn, sub, ab, col, dd, k0, k1, k2, k3, k5, lk, ht⟩
    · cases h
  · cases h
theorem kcs_mem {i : Nat} (h : i < 11) : kcs.getD i ("", [], false) ∈ kcs := by
  have key : ∀ i : Nat, i < 11 → kcs.getD i ("", [], false) ∈ kcs := by decide +kernel
  exact key i h
theorem kn_inj {i j : Nat} (hi : i < 11) (hj : j < 11) : decide (kn i = kn j) = decide (i = j) := by
  have key : ∀ i : Nat, i < 11 → ∀ j : Nat, j < 11 → decide (kn i = kn j) = decide (i = j) := by decide +kernel
  exact key i hi j hj
theorem kn_ini {i : Nat} (hi : i < 11) (h0 : i ≠ 0) : (kcs.getD i ("", [], false)).2.2 = true := by
  have key : ∀ i : Nat, i < 11 → i ≠ 0 → (kcs.getD i ("", [], false)).2.2 = true := by decide +kernel
  exact key i hi h0
theorem all_and {l : List Bool} (h : l.all id = true) : ∀ b ∈ l, b = true := fun b hb => List.all_eq_true.mp h b hb
section
variable {K : PySem.W.Frag} {mg : Str → Option Value} {h : Heap}
theorem kc_ok (X : K.In h) (G : h.Ns mainGlobals mg) (c2 : exB K = true) (E : Nat → DA) (hE : ∀ i, i < 11 → (E i).f = He.ma K (He.ga K (kn i)) "__eq__") (i : Nat) (hi : i < 11) : Kc K mg (fun i => He.ga K (kn i)) E i := by
  have ex := all_and c2
  unfold exL at ex
  have x1 : kcs.all (fun y => (kcL K y.1 y.2.2).all id) = true := ex _ (by simp)
  have x5 : He.eqO (PySem.W.specialIn K (.builtin "object.__class__") "__get__") (some (some (.builtin "getset_descriptor.__get__"))) = true := ex _ (by simp)
  have x6 : eqB (PySem.W.takesIn K (.builtin "object.__class__")) (some true) = true := ex _ (by simp)
  have z := all_and (List.all_eq_true.mp x1 _ (kcs_mem hi))
  unfold kcL at z
  have z1 : He.eqO (PySem.W.nsIn K mainGlobals (kn i)) (some (some (.ref (He.ga K (kn i))))) = true := z _ (by simp [kn])
  have z2 : PySem.W.plainGet K (He.ga K (kn i)) Str.empty = true := z _ (by simp [kn])
  have z3 : PySem.W.hasDictIn K (He.ga K (kn i)) = true := z _ (by simp [kn])
  have z4 : PySem.W.plainOver K (He.ga K (kn i)) = true := z _ (by simp [kn])
  have z5 : He.eqO (PySem.W.findIn K (.ref (He.ga K (kn i))) "__setattr__") (some (some (.builtin "object.__setattr__"))) = true := z _ (by simp [kn])
  have z6 : PySem.W.makesIn K (He.ga K (kn i)) = true := z _ (by simp [kn])
  have z7 : PySem.W.keepIn K (.ref (He.ga K (kn i))) = true := z _ (by simp [kn])
  have z8 : He.eqO (PySem.W.findIn K (.ref (He.ga K (kn i))) "__class__") (some (some (.builtin "object.__class__"))) = true := z _ (by simp [kn])
  have z9 : eqB (PySem.W.mroIn K (He.ga K (kn i)) (.type "object")) (some true) = true := z _ (by simp [kn])
  have z10 : allK.all (fun f => He.eqO (PySem.W.findIn K (.ref (He.ga K (kn i))) f) (some none)) = true := z _ (by simp [kn])
  have z11 : He.eqO (PySem.W.findIn K (.ref (He.ga K (kn i))) "__eq__") (some (some (.ref (He.ma K (He.ga K (kn i)) "__eq__")))) = true := z _ (by simp [kn])
  have z12 : PySem.W.isFn K (.ref (He.ma K (He.ga K (kn i)) "__eq__")) = true := z _ (by simp [kn])
  have z14 : kcs.all (fun y => eqB (PySem.W.kitOne K (.ref (He.ga K (kn i))) (.ref (He.ga K y.1))) (some (decide (kn i = y.1)))) = true := z _ (by simp [kn])
  have z15 : tys.all (fun t => eqB (PySem.W.kitOne K (.ref (He.ga K (kn i))) (.type t)) (some false)) = true := z _ (by simp [kn])
  have z16 : tys.all (fun t => eqB (PySem.W.kitOne K (.type t) (.ref (He.ga K (kn i)))) (some false)) = true := z _ (by simp [kn])
  refine { gl := PySem.W.mg_of X G (He.eqO_ok z1), cl := ⟨z2, z3, z4, He.eqO_ok z5⟩, mks := z6, kp := z7, cc := He.eqO_ok z8, cm := eqB_ok z9, no := (fun f hf => He.eqO_ok (List.all_eq_true.mp z10 f hf)), eqA := ?_, eqF := ?_, kt := (fun j hj => ?_), kT := (fun t ht => eqB_ok (List.all_eq_true.mp z15 t ht)), tK := (fun t ht => eqB_ok (List.all_eq_true.mp z16 t ht)), sp := He.eqO_ok x5, tk := eqB_ok x6 }
  · rw [hE i hi]; exact He.eqO_ok z11
  · rw [hE i hi]; exact z12
  · have q := eqB_ok (List.all_eq_true.mp z14 _ (kcs_mem hj))
    have e : decide (kn i = (kcs.getD j ("", [], false)).1) = decide (i = j) := kn_inj hi hj
    rw [e] at q
    exact q
theorem mk_ok (c2 : exB K = true) (i : Nat) (hi : i < 11) (h0 : i ≠ 0) : Mk K (He.ga K (kn i)) (He.ma K (He.ga K (kn i)) "__init__") := by
  have ex := all_and c2
  unfold exL at ex
  have x1 : kcs.all (fun y => (kcL K y.1 y.2.2).all id) = true := ex _ (by simp)
  have z := all_and (List.all_eq_true.mp x1 _ (kcs_mem hi))
  unfold kcL at z
  rw [kn_ini hi h0] at z
  have z6 : PySem.W.makesIn K (He.ga K (kn i)) = true := z _ (by simp [kn])
  have z7 : PySem.W.keepIn K (.ref (He.ga K (kn i))) = true := z _ (by simp [kn])
  have z17 : (He.eqO (PySem.W.findIn K (.ref (He.ga K (kn i))) "__init__") (some (some (.ref (He.ma K (He.ga K (kn i)) "__init__")))) && (PySem.W.isFn K (.ref (He.ma K (He.ga K (kn i)) "__init__")) && PySem.W.keepIn K (.ref (He.ma K (He.ga K (kn i)) "__init__")))) = true := z _ (by simp [kn])
  obtain ⟨a1, a2⟩ := Bool.and_eq_true_iff.mp z17
  exact ⟨z6, He.eqO_ok a1, (Bool.and_eq_true_iff.mp a2).1, z7⟩
theorem ini0_ok (c2 : exB K = true) : PySem.W.findIn K (.ref (He.ga K (kn 0))) "__init__" = some (some (.builtin "object.__init__")) := by
  have ex := all_and c2
  unfold exL at ex
  have x1 : kcs.all (fun y => (kcL K y.1 y.2.2).all id) = true := ex _ (by simp)
  have z := all_and (List.all_eq_true.mp x1 _ (kcs_mem (i := 0) (by decide)))
  unfold kcL at z
  have z17 : He.eqO (PySem.W.findIn K (.ref (He.ga K (kn 0))) "__init__") (some (some (.builtin "object.__init__"))) = true := z _ (by
    have e : (kcs.getD 0 ("", [], false)).2.2 = false := by decide +kernel
    rw [e]
    simp [kn])
  exact He.eqO_ok z17
theorem bad_ok (X : K.In h) (G : h.Ns mainGlobals mg) (c2 : exB K = true) {I : DA} (hI : I.f = He.ma K (He.ga K "BadKind") "__init__")
    (fn : FunD K "__init__" "BadKind.__init__" (defArgs (inClass (top 8) 0)) (defBody (inClass (top 8) 0)) (defScope (inClass (top 8) 0)) [] [] I.f I.fd) (b : Binds K I.fd ["self", "part"] []) : BadT K mg (He.ga K "BadKind") I := by
  have ex := all_and c2
  unfold exL at ex
  have y1 : oexB K (He.ga K "BadKind") = true := ex _ (by simp)
  have y2 : He.eqO (PySem.W.nsIn K mainGlobals "BadKind") (some (some (.ref (He.ga K "BadKind")))) = true := ex _ (by simp)
  have y3 : He.eqO (PySem.W.findIn K (.ref (He.ga K "BadKind")) "__setattr__") (some (some (.builtin "object.__setattr__"))) = true := ex _ (by simp)
  have y4 : eqB (PySem.W.subIn K (.ref (He.ga K "BadKind")) (.type "BaseException")) (some true) = true := ex _ (by simp)
  have y5 : decide (PySem.W.typeIn K (.ref (He.ga K "BadKind")) = some (.type "type")) = true := ex _ (by simp)
  have y6 : PySem.W.keepIn K (.ref (He.ga K "BadKind")) = true := ex _ (by simp)
  have y7 : He.eqO (PySem.W.findIn K (.ref (He.ga K "BadKind")) "__getattribute__") (some (some (.builtin "BaseException.__getattribute__"))) = true := ex _ (by simp)
  have y8 : He.eqO (PySem.W.findIn K (.ref (He.ga K "BadKind")) "__getattr__") (some none) = true := ex _ (by simp)
  have y9 : PySem.W.hasDictIn K (He.ga K "BadKind") = true := ex _ (by simp)
  have y10 : eqB (PySem.W.exmOne K (.ref (He.ga K "BadKind")) (.ref (He.ga K "BadKind"))) (some true) = true := ex _ (by simp)
  have y11 : He.eqO (PySem.W.findIn K (.ref (He.ga K "BadKind")) "part") (some none) = true := ex _ (by simp)
  have y12 : He.eqO (PySem.W.findIn K (.ref (He.ga K "BadKind")) "__init__") (some (some (.ref (He.ma K (He.ga K "BadKind") "__init__")))) = true := ex _ (by simp)
  have y13 : decide (PySem.W.typeIn K (.ref (He.ma K (He.ga K "BadKind") "__init__")) = some (.type "function")) = true := ex _ (by simp)
  exact { ox := ⟨oexB_ok y1, He.eqO_ok y3, eqB_ok y4, of_decide_eq_true y5, y6⟩, gl := PySem.W.mg_of X G (He.eqO_ok y2), xf := ⟨He.eqO_ok y7, He.eqO_ok y8, eqB_ok y4, y9⟩, ex := eqB_ok y10, no := He.eqO_ok y11, ini := by rw [hI]; exact He.eqO_ok y12, ti := by rw [hI]; exact of_decide_eq_true y13, fn := fn, b := b }
theorem vals_nil {ds : List Value} (r : Vals [] ds) : ds = [] := by cases r; rfl
theorem vals_non {ds : List Value} (r : Vals [V.non] ds) : ds = [.none] := by
  cases r with
  | cons a b =>
    cases b
    rw [show _ = Value.none from a]
theorem mk_txt (X : K.In h) (G : h.Ns mainGlobals mg) (e : obsK K = valK) : ∃ a : Ad, a.law.f = He.ga K "law" ∧ Txt K mg a := by
  have c : He.SaysD fa fn K := congrArg (fun z : AlK => z.1) e
  have c2 : exB K = true := congrArg (fun z : AlK => z.2) e
  obtain ⟨fd0, F0⟩ := c.def_ 0 (d := dG "is_int" 1) rfl
  obtain ⟨fd1, F1⟩ := c.def_ 1 (d := dG "is_int_within" 2) rfl
  obtain ⟨fd2, F2⟩ := c.def_ 2 (d := dG "is_name" 3) rfl
  obtain ⟨fd3, F3⟩ := c.def_ 3 (d := dG "is_bits" 4) rfl
  obtain ⟨fd4, F4⟩ := c.def_ 4 (d := dG "is_word" 5) rfl
  obtain ⟨fd5, F5⟩ := c.def_ 5 (d := dG "is_simple" 15) rfl
  obtain ⟨fd6, F6⟩ := c.def_ 6 (d := dG "check_word_and_name" 22) rfl
  obtain ⟨fd7, F7⟩ := c.def_ 7 (d := dG "are_ways" 23) rfl
  obtain ⟨fd8, F8⟩ := c.def_ 8 (d := dG "are_parts" 24) rfl
  obtain ⟨fd9, F9⟩ := c.def_ 9 (d := dG "have_unlike_names" 25) rfl
  obtain ⟨fd10, F10⟩ := c.def_ 10 (d := dG "are_apart" 26) rfl
  obtain ⟨fd11, F11⟩ := c.def_ 11 (d := dG "_law_is_int" 28) rfl
  obtain ⟨fd12, F12⟩ := c.def_ 12 (d := dG "_law_same_dict" 29) rfl
  obtain ⟨fd13, F13⟩ := c.def_ 13 (d := dG "_law_same" 30) rfl
  obtain ⟨fd14, F14⟩ := c.def_ 14 (d := dG "_law_start" 31) rfl
  obtain ⟨fd15, F15⟩ := c.def_ 15 (d := dG "_law_pull" 32) rfl
  obtain ⟨fd16, F16⟩ := c.def_ 16 (d := dG "_law_name" 33) rfl
  obtain ⟨fd17, F17⟩ := c.def_ 17 (d := dG "_law_bits" 34) rfl
  obtain ⟨fd18, F18⟩ := c.def_ 18 (d := dG "_law_words" 35) rfl
  obtain ⟨fd19, F19⟩ := c.def_ 19 (d := dG "_law_odd" 36) rfl
  obtain ⟨fd20, F20⟩ := c.def_ 20 (d := dG "_law_object" 37) rfl
  obtain ⟨fd21, F21⟩ := c.def_ 21 (d := dG "_law_rows" 38) rfl
  obtain ⟨fd22, F22⟩ := c.def_ 22 (d := dG "_law_spoil" 39) rfl
  obtain ⟨fd23, F23⟩ := c.def_ 23 (d := dG "_law_one" 40) rfl
  obtain ⟨fd24, F24⟩ := c.def_ 24 (d := dG "_law_plain" 41) rfl
  obtain ⟨fd25, F25⟩ := c.def_ 25 (d := dG "_law_good" 42) rfl
  obtain ⟨fd26, F26⟩ := c.def_ 26 (d := dG "_law_make" 43) rfl
  obtain ⟨fd27, F27⟩ := c.def_ 27 (d := dG "_law_told" 44) rfl
  obtain ⟨fd28, F28⟩ := c.def_ 28 (d := dG "_law_is_right" 45) rfl
  obtain ⟨fd29, F29⟩ := c.def_ 29 (d := dG "_law_kept" 46) rfl
  obtain ⟨fd30, F30⟩ := c.def_ 30 (d := dG "_law_after_change" 47) rfl
  obtain ⟨fd31, F31⟩ := c.def_ 31 (d := dG "law" 48) rfl
  obtain ⟨fd32, F32⟩ := c.def_ 32 (d := dM "BadKind" "__init__" 8 0 []) rfl
  obtain ⟨fd33, F33⟩ := c.def_ 33 (d := dM "Nothing" "__eq__" 10 0 []) rfl
  obtain ⟨fd34, F34⟩ := c.def_ 34 (d := dM "Number" "__init__" 11 0 [.non]) rfl
  obtain ⟨fd35, F35⟩ := c.def_ 35 (d := dM "Number" "__eq__" 11 1 []) rfl
  obtain ⟨fd36, F36⟩ := c.def_ 36 (d := dM "Bits" "__init__" 12 0 []) rfl
  obtain ⟨fd37, F37⟩ := c.def_ 37 (d := dM "Bits" "__eq__" 12 1 []) rfl
  obtain ⟨fd38, F38⟩ := c.def_ 38 (d := dM "Call" "__init__" 13 0 []) rfl
  obtain ⟨fd39, F39⟩ := c.def_ 39 (d := dM "Call" "__eq__" 13 1 []) rfl
  obtain ⟨fd40, F40⟩ := c.def_ 40 (d := dM "Items" "__init__" 14 0 [.non]) rfl
  obtain ⟨fd41, F41⟩ := c.def_ 41 (d := dM "Items" "__eq__" 14 1 []) rfl
  obtain ⟨fd42, F42⟩ := c.def_ 42 (d := dM "Way" "__init__" 16 0 []) rfl
  obtain ⟨fd43, F43⟩ := c.def_ 43 (d := dM "Way" "__eq__" 16 1 []) rfl
  obtain ⟨fd44, F44⟩ := c.def_ 44 (d := dM "Door" "__init__" 17 0 []) rfl
  obtain ⟨fd45, F45⟩ := c.def_ 45 (d := dM "Door" "__eq__" 17 1 []) rfl
  obtain ⟨fd46, F46⟩ := c.def_ 46 (d := dM "Part" "__init__" 18 0 []) rfl
  obtain ⟨fd47, F47⟩ := c.def_ 47 (d := dM "Part" "__eq__" 18 1 []) rfl
  obtain ⟨fd48, F48⟩ := c.def_ 48 (d := dM "Room" "__init__" 19 0 []) rfl
  obtain ⟨fd49, F49⟩ := c.def_ 49 (d := dM "Room" "__eq__" 19 1 []) rfl
  obtain ⟨fd50, F50⟩ := c.def_ 50 (d := dM "Choice" "__init__" 20 0 []) rfl
  obtain ⟨fd51, F51⟩ := c.def_ 51 (d := dM "Choice" "__eq__" 20 1 []) rfl
  obtain ⟨fd52, F52⟩ := c.def_ 52 (d := dM "Row" "__init__" 21 0 []) rfl
  obtain ⟨fd53, F53⟩ := c.def_ 53 (d := dM "Row" "__eq__" 21 1 []) rfl
  obtain ⟨d1a, r1a, b1a⟩ := FunD.binds1 (ps := ["self", "low", "high", "width"]) F34 4 1 (List.cons_ne_nil V.non []) rfl fun _ _ _ _ _ _ _ us its hu hi => match us, its, hu, hi with | [_, _, _, _], [_], _, _ => ⟨_, rfl, rfl⟩
  obtain ⟨d1b, r1b, b1b⟩ := FunD.binds1 (ps := ["self", "low", "high", "width"]) F34 3 0 (List.cons_ne_nil V.non []) rfl fun _ _ _ _ _ _ _ us its hu hi => match us, its, hu, hi with | [_, _, _], [_], _, _ => ⟨_, rfl, rfl⟩
  obtain ⟨d4a, r4a, b4a⟩ := FunD.binds1 (ps := ["self", "item", "width"]) F40 3 1 (List.cons_ne_nil V.non []) rfl fun _ _ _ _ _ _ _ us its hu hi => match us, its, hu, hi with | [_, _, _], [_], _, _ => ⟨_, rfl, rfl⟩
  obtain ⟨d4b, r4b, b4b⟩ := FunD.binds1 (ps := ["self", "item", "width"]) F40 2 0 (List.cons_ne_nil V.non []) rfl fun _ _ _ _ _ _ _ us its hu hi => match us, its, hu, hi with | [_, _], [_], _, _ => ⟨_, rfl, rfl⟩
  cases vals_nil r1a
  cases vals_non r1b
  cases vals_nil r4a
  cases vals_non r4b
  refine ⟨{ C := fun i => He.ga K (kn i), I := fun i => ⟨He.ma K (He.ga K (kn i)) "__init__", ([fd0, fd34, fd36, fd38, fd40, fd42, fd44, fd46, fd48, fd50, fd52] : List FuncData).getD i fd0⟩, E := fun i => ⟨He.ma K (He.ga K (kn i)) "__eq__", ([fd33, fd35, fd37, fd39, fd41, fd43, fd45, fd47, fd49, fd51, fd53] : List FuncData).getD i fd0⟩, bad := He.ga K "BadKind", badI := ⟨He.ma K (He.ga K "BadKind") "__init__", fd32⟩, is_int := ⟨He.ga K "is_int", fd0⟩, is_int_within := ⟨He.ga K "is_int_within", fd1⟩, is_name := ⟨He.ga K "is_name", fd2⟩, is_bits := ⟨He.ga K "is_bits", fd3⟩, is_word := ⟨He.ga K "is_word", fd4⟩, is_simple := ⟨He.ga K "is_simple", fd5⟩, check_word_and_name := ⟨He.ga K "check_word_and_name", fd6⟩, are_ways := ⟨He.ga K "are_ways", fd7⟩, are_parts := ⟨He.ga K "are_parts", fd8⟩, have_unlike_names := ⟨He.ga K "have_unlike_names", fd9⟩, are_apart := ⟨He.ga K "are_apart", fd10⟩, _law_is_int := ⟨He.ga K "_law_is_int", fd11⟩, _law_same_dict := ⟨He.ga K "_law_same_dict", fd12⟩, _law_same := ⟨He.ga K "_law_same", fd13⟩, _law_start := ⟨He.ga K "_law_start", fd14⟩, _law_pull := ⟨He.ga K "_law_pull", fd15⟩, _law_name := ⟨He.ga K "_law_name", fd16⟩, _law_bits := ⟨He.ga K "_law_bits", fd17⟩, _law_words := ⟨He.ga K "_law_words", fd18⟩, _law_odd := ⟨He.ga K "_law_odd", fd19⟩, _law_object := ⟨He.ga K "_law_object", fd20⟩, _law_rows := ⟨He.ga K "_law_rows", fd21⟩, _law_spoil := ⟨He.ga K "_law_spoil", fd22⟩, _law_one := ⟨He.ga K "_law_one", fd23⟩, _law_plain := ⟨He.ga K "_law_plain", fd24⟩, _law_good := ⟨He.ga K "_law_good", fd25⟩, _law_make := ⟨He.ga K "_law_make", fd26⟩, _law_told := ⟨He.ga K "_law_told", fd27⟩, _law_is_right := ⟨He.ga K "_law_is_right", fd28⟩, _law_kept := ⟨He.ga K "_law_kept", fd29⟩, _law_after_change := ⟨He.ga K "_law_after_change", fd30⟩, law := ⟨He.ga K "law", fd31⟩ }, rfl, ?_⟩
  exact { kc := kc_ok X G c2 _ (fun _ _ => rfl), bad := bad_ok X G c2 rfl F32 (FunD.bindsN F32 fun _ _ _ _ _ _ us hl => match us, hl with | [_, _], _ => rfl), ini0 := ini0_ok c2, isinstance := He.free_ok X G (c.fact 32 (f := .free "isinstance") rfl), int := He.free_ok X G (c.fact 33 (f := .free "int") rfl), bool := He.free_ok X G (c.fact 34 (f := .free "bool") rfl), str := He.free_ok X G (c.fact 35 (f := .free "str") rfl), dict := He.free_ok X G (c.fact 36 (f := .free "dict") rfl), list := He.free_ok X G (c.fact 37 (f := .free "list") rfl), tuple := He.free_ok X G (c.fact 38 (f := .free "tuple") rfl), len := He.free_ok X G (c.fact 39 (f := .free "len") rfl), range := He.free_ok X G (c.fact 40 (f := .free "range") rfl), all := He.free_ok X G (c.fact 41 (f := .free "all") rfl), any := He.free_ok X G (c.fact 42 (f := .free "any") rfl), enumerate := He.free_ok X G (c.fact 43 (f := .free "enumerate") rfl), max := He.free_ok X G (c.fact 44 (f := .free "max") rfl), is_int := ⟨F0, He.glo_ok X G (c.fact 0 (f := .glo "is_int") rfl), FunD.bindsN F0 fun _ _ _ _ _ _ us hl => match us, hl with | [_], _ => rfl⟩, is_int_within := ⟨F1, He.glo_ok X G (c.fact 1 (f := .glo "is_int_within") rfl), FunD.bindsN F1 fun _ _ _ _ _ _ us hl => match us, hl with | [_, _, _], _ => rfl⟩, is_name := ⟨F2, He.glo_ok X G (c.fact 2 (f := .glo "is_name") rfl), FunD.bindsN F2 fun _ _ _ _ _ _ us hl => match us, hl with | [_], _ => rfl⟩, is_bits := ⟨F3, He.glo_ok X G (c.fact 3 (f := .glo "is_bits") rfl), FunD.bindsN F3 fun _ _ _ _ _ _ us hl => match us, hl with | [_], _ => rfl⟩, is_word := ⟨F4, He.glo_ok X G (c.fact 4 (f := .glo "is_word") rfl), FunD.bindsN F4 fun _ _ _ _ _ _ us hl => match us, hl with | [_], _ => rfl⟩, is_simple := ⟨F5, He.glo_ok X G (c.fact 5 (f := .glo "is_simple") rfl), FunD.bindsN F5 fun _ _ _ _ _ _ us hl => match us, hl with | [_], _ => rfl⟩, check_word_and_name := ⟨F6, He.glo_ok X G (c.fact 6 (f := .glo "check_word_and_name") rfl), FunD.bindsN F6 fun _ _ _ _ _ _ us hl => match us, hl with | [_, _], _ => rfl⟩, are_ways := ⟨F7, He.glo_ok X G (c.fact 7 (f := .glo "are_ways") rfl), FunD.bindsN F7 fun _ _ _ _ _ _ us hl => match us, hl with | [_], _ => rfl⟩, are_parts := ⟨F8, He.glo_ok X G (c.fact 8 (f := .glo "are_parts") rfl), FunD.bindsN F8 fun _ _ _ _ _ _ us hl => match us, hl with | [_], _ => rfl⟩, have_unlike_names := ⟨F9, He.glo_ok X G (c.fact 9 (f := .glo "have_unlike_names") rfl), FunD.bindsN F9 fun _ _ _ _ _ _ us hl => match us, hl with | [_], _ => rfl⟩, are_apart := ⟨F10, He.glo_ok X G (c.fact 10 (f := .glo "are_apart") rfl), FunD.bindsN F10 fun _ _ _ _ _ _ us hl => match us, hl with | [_], _ => rfl⟩, _law_is_int := ⟨F11, He.glo_ok X G (c.fact 11 (f := .glo "_law_is_int") rfl), FunD.bindsN F11 fun _ _ _ _ _ _ us hl => match us, hl with | [_], _ => rfl⟩, _law_same_dict := ⟨F12, He.glo_ok X G (c.fact 12 (f := .glo "_law_same_dict") rfl), FunD.bindsN F12 fun _ _ _ _ _ _ us hl => match us, hl with | [_, _], _ => rfl⟩, _law_same := ⟨F13, He.glo_ok X G (c.fact 13 (f := .glo "_law_same") rfl), FunD.bindsN F13 fun _ _ _ _ _ _ us hl => match us, hl with | [_, _], _ => rfl⟩, _law_start := ⟨F14, He.glo_ok X G (c.fact 14 (f := .glo "_law_start") rfl), FunD.bindsN F14 fun _ _ _ _ _ _ us hl => match us, hl with | [_], _ => rfl⟩, _law_pull := ⟨F15, He.glo_ok X G (c.fact 15 (f := .glo "_law_pull") rfl), FunD.bindsN F15 fun _ _ _ _ _ _ us hl => match us, hl with | [_, _], _ => rfl⟩, _law_name := ⟨F16, He.glo_ok X G (c.fact 16 (f := .glo "_law_name") rfl), FunD.bindsN F16 fun _ _ _ _ _ _ us hl => match us, hl with | [_, _], _ => rfl⟩, _law_bits := ⟨F17, He.glo_ok X G (c.fact 17 (f := .glo "_law_bits") rfl), FunD.bindsN F17 fun _ _ _ _ _ _ us hl => match us, hl with | [_, _], _ => rfl⟩, _law_words := ⟨F18, He.glo_ok X G (c.fact 18 (f := .glo "_law_words") rfl), FunD.bindsN F18 fun _ _ _ _ _ _ us hl => match us, hl with | [_, _], _ => rfl⟩, _law_odd := ⟨F19, He.glo_ok X G (c.fact 19 (f := .glo "_law_odd") rfl), FunD.bindsN F19 fun _ _ _ _ _ _ us hl => match us, hl with | [_], _ => rfl⟩, _law_object := ⟨F20, He.glo_ok X G (c.fact 20 (f := .glo "_law_object") rfl), FunD.bindsN F20 fun _ _ _ _ _ _ us hl => match us, hl with | [_], _ => rfl⟩, _law_rows := ⟨F21, He.glo_ok X G (c.fact 21 (f := .glo "_law_rows") rfl), FunD.bindsN F21 fun _ _ _ _ _ _ us hl => match us, hl with | [_, _], _ => rfl⟩, _law_spoil := ⟨F22, He.glo_ok X G (c.fact 22 (f := .glo "_law_spoil") rfl), FunD.bindsN F22 fun _ _ _ _ _ _ us hl => match us, hl with | [_, _], _ => rfl⟩, _law_one := ⟨F23, He.glo_ok X G (c.fact 23 (f := .glo "_law_one") rfl), FunD.bindsN F23 fun _ _ _ _ _ _ us hl => match us, hl with | [_, _], _ => rfl⟩, _law_plain := ⟨F24, He.glo_ok X G (c.fact 24 (f := .glo "_law_plain") rfl), FunD.bindsN F24 fun _ _ _ _ _ _ us hl => match us, hl with | [_, _], _ => rfl⟩, _law_good := ⟨F25, He.glo_ok X G (c.fact 25 (f := .glo "_law_good") rfl), FunD.bindsN F25 fun _ _ _ _ _ _ us hl => match us, hl with | [_, _], _ => rfl⟩, _law_make := ⟨F26, He.glo_ok X G (c.fact 26 (f := .glo "_law_make") rfl), FunD.bindsN F26 fun _ _ _ _ _ _ us hl => match us, hl with | [_, _], _ => rfl⟩, _law_told := ⟨F27, He.glo_ok X G (c.fact 27 (f := .glo "_law_told") rfl), FunD.bindsN F27 fun _ _ _ _ _ _ us hl => match us, hl with | [_, _], _ => rfl⟩, _law_is_right := ⟨F28, He.glo_ok X G (c.fact 28 (f := .glo "_law_is_right") rfl), FunD.bindsN F28 fun _ _ _ _ _ _ us hl => match us, hl with | [_, _, _], _ => rfl⟩, _law_kept := ⟨F29, He.glo_ok X G (c.fact 29 (f := .glo "_law_kept") rfl), FunD.bindsN F29 fun _ _ _ _ _ _ us hl => match us, hl with | [_, _, _, _], _ => rfl⟩, _law_after_change := ⟨F30, He.glo_ok X G (c.fact 30 (f := .glo "_law_after_change") rfl), FunD.bindsN F30 fun _ _ _ _ _ _ us hl => match us, hl with | [_, _], _ => rfl⟩, law := ⟨F31, He.glo_ok X G (c.fact 31 (f := .glo "law") rfl), FunD.bindsN F31 fun _ _ _ _ _ _ us hl => match us, hl with | [_], _ => rfl⟩, E0 := F33, Eb0 := FunD.bindsN F33 fun _ _ _ _ _ _ us hl => match us, hl with | [_, _], _ => rfl, E1 := F35, Eb1 := FunD.bindsN F35 fun _ _ _ _ _ _ us hl => match us, hl with | [_, _], _ => rfl, I1 := F34, mk1 := mk_ok c2 1 (by decide) (by decide), Ib1 := b1a, Id1 := b1b, E2 := F37, Eb2 := FunD.bindsN F37 fun _ _ _ _ _ _ us hl => match us, hl with | [_, _], _ => rfl, I2 := F36, mk2 := mk_ok c2 2 (by decide) (by decide), Ib2 := FunD.bindsN F36 fun _ _ _ _ _ _ us hl => match us, hl with | [_, _], _ => rfl, E3 := F39, Eb3 := FunD.bindsN F39 fun _ _ _ _ _ _ us hl => match us, hl with | [_, _], _ => rfl, I3 := F38, mk3 := mk_ok c2 3 (by decide) (by decide), Ib3 := FunD.bindsN F38 fun _ _ _ _ _ _ us hl => match us, hl with | [_, _], _ => rfl, E4 := F41, Eb4 := FunD.bindsN F41 fun _ _ _ _ _ _ us hl => match us, hl with | [_, _], _ => rfl, I4 := F40, mk4 := mk_ok c2 4 (by decide) (by decide), Ib4 := b4a, Id4 := b4b, E5 := F43, Eb5 := FunD.bindsN F43 fun _ _ _ _ _ _ us hl => match us, hl with | [_, _], _ => rfl, I5 := F42, mk5 := mk_ok c2 5 (by decide) (by decide), Ib5 := FunD.bindsN F42 fun _ _ _ _ _ _ us hl => match us, hl with | [_, _, _, _], _ => rfl, E6 := F45, Eb6 := FunD.bindsN F45 fun _ _ _ _ _ _ us hl => match us, hl with | [_, _], _ => rfl, I6 := F44, mk6 := mk_ok c2 6 (by decide) (by decide), Ib6 := FunD.bindsN F44 fun _ _ _ _ _ _ us hl => match us, hl with | [_, _, _, _], _ => rfl, E7 := F47, Eb7 := FunD.bindsN F47 fun _ _ _ _ _ _ us hl => match us, hl with | [_, _], _ => rfl, I7 := F46, mk7 := mk_ok c2 7 (by decide) (by decide), Ib7 := FunD.bindsN F46 fun _ _ _ _ _ _ us hl => match us, hl with | [_, _, _], _ => rfl, E8 := F49, Eb8 := FunD.bindsN F49 fun _ _ _ _ _ _ us hl => match us, hl with | [_, _], _ => rfl, I8 := F48, mk8 := mk_ok c2 8 (by decide) (by decide), Ib8 := FunD.bindsN F48 fun _ _ _ _ _ _ us hl => match us, hl with | [_, _, _, _], _ => rfl, E9 := F51, Eb9 := FunD.bindsN F51 fun _ _ _ _ _ _ us hl => match us, hl with | [_, _], _ => rfl, I9 := F50, mk9 := mk_ok c2 9 (by decide) (by decide), Ib9 := FunD.bindsN F50 fun _ _ _ _ _ _ us hl => match us, hl with | [_, _], _ => rfl, E10 := F53, Eb10 := FunD.bindsN F53 fun _ _ _ _ _ _ us hl => match us, hl with | [_, _], _ => rfl, I10 := F52, mk10 := mk_ok c2 10 (by decide) (by decide), Ib10 := FunD.bindsN F52 fun _ _ _ _ _ _ us hl => match us, hl with | [_, _], _ => rfl }
end
end Me
set_option maxHeartbeats 0
open PySem PySem.W PySem.Calls PyProof.Rows
theorem PySem.Challenge.cw_roomleft_k04_choices_and_rows_refused_or_holds : PySem.Challenge.rw_roomleft_k04_choices_and_rows_refused_or.Holds := by
  w_on; o_law
  refine HandSHeadRun.head_any (r := OpenLaw.row PySem.Challenge.rw_roomleft_k04_choices_and_rows_refused_or) (q := view (OpenLaw.row PySem.Challenge.rw_roomleft_k04_choices_and_rows_refused_or).prog [48]) (H := Me.hk) (ob := Me.ob) (M := 6000) (loose := Me.loose)
    (d := HandSHeadRun.topDef (OpenLaw.row PySem.Challenge.rw_roomleft_k04_choices_and_rows_refused_or).prog 48) (kwd := []) Me.ob_eq
    (by kernel_rfl) (fun s => by kernel_rfl) Me.run (by kernel_rfl) (by kernel_rfl) (by kernel_rfl) (by rfl) (by first | assumption | decide +kernel) (by decide +kernel) ⟨rfl, rfl, rfl, rfl, rfl, by decide +kernel⟩ ?hw ?hc
  case hw => w_witness2
  case hc =>
    refine L2.walk_ofE (l := PySem.Challenge.rw_roomleft_k04_choices_and_rows_refused_or) (n := 63) (k := 9) (x := "_law_script") (CX := L2.CX0) rfl (by decide) (by kernel_rfl) ⟨rfl, by decide, by decide⟩ ?F (fun _ _ _ _ z => z)
    intro w mg f h Y G hmg0
    obtain ⟨K, KX, c⟩ := Y
    have hmg : mg ("law" : PySem.Str) = some (.ref f) := by
      have e : (HandSHeadRun.topDef (OpenLaw.row PySem.Challenge.rw_roomleft_k04_choices_and_rows_refused_or).prog 48).name = ("law" : PySem.Str) := by kernel_rfl
      rw [← e]
      exact hmg0
    obtain ⟨a, ea, T⟩ := Me.mk_txt KX G c
    have ef := hmg.symm.trans T.law.mg
    cases ef
    refine ⟨K, a.law.fd, Me.spLaw K, KX, fun s v => ?_, fun H b ns hl _ hS => ⟨b, ns, rfl, hS, hl, fun _ => rfl⟩, fun base _ _ => Me.ok_law T⟩
    have bd := T.law.b
    exact L2.FunD.bindsA (ps := ["_law_script"]) T.law.fn (fun _ _ _ _ _ _ us hl => match us, hl with | [_], _ => rfl) s [v] rfl
