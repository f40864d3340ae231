import PyProof.Rows.All
import Wide.All
import OpenK.AllK
import Wide.FinOn
import KE.KStateDown
import HandS.Base
import HandS.Call
import HandS.Ends
import HandS.More
import HandS.Words
import HandS.Exc
import HandS.Defaults
import HandS.HeadHook1
import HandS.HeadHook2
import HandS.Head0
import HandS.Head1
import HandS.Head2
import HandS.ForMost
import HandS.ForExc
import HandS.ExcInit
import HandS.ExcField
import HandS.IsInst
import HandS.Wide
import HandS.OwnEq
import KE.KxText
import HandS.StrMore
import PyProof.Rows.StrCut
import HandS.SetBool
import HandS.SetKeys
import PyProof.Rows.SetListFold
import HandS.HeadEnd
import PySem.Challenge.RW_roomleft_k03_ways_doors_parts_and_rooms
set_option Elab.async false
set_option linter.all false
set_option maxRecDepth 100000
set_option maxHeartbeats 8000000
namespace Me
open PySem PySem.Spec PyProof.Rows L2
/-! ### the text -/
def top (i : Nat) : Stmt := PySem.Challenge.pw_roomleft_k03_ways_doors_parts_and_rooms.main.body.getD i (.Pass ⟨0, 0, 0, 0⟩)
/-- the classes of kinds: name, fields, has its own __init__ -/
def kcs : List (Str × List Str × Bool) := [("Nothing", [], false), ("Number", ["low", "high", "width"], true), ("Bits", ["many"], true), ("Call", ["name"], true), ("Items", ["item", "width"], true), ("Way", ["word", "name", "kind"], true), ("Door", ["word", "name", "kind"], true), ("Part", ["name", "kind"], true), ("Room", ["word", "name", "kind"], true), ("Choice", ["ways"], true), ("Row", ["parts"], true)]
def allK : List Str := ["low", "high", "width", "many", "name", "item", "word", "kind", "ways", "parts"]
def tys : List String := ["NoneType", "bool", "int", "str", "tuple", "list", "dict"]
/-! ### what is asked of the written part -/
def oexB (K : PySem.W.Frag) (C : Addr) : Bool := match K.lookup C with
  | some ⟨.type "type", _, .cls cd, sl⟩ => (match cd.mro, sl.toList with
    | .ref C' :: bm, [_, _, _, _, some (.builtin n), _] => C' == C && (n == "ValueError.__new__" && (!cd.hasDel && (cd.hasDict && PySem.HandSPX.refsVE bm)))
    | _, _ => false)
  | _ => false
def eqB (a b : Option Bool) : Bool := decide (a = b)
def kcL (K : PySem.W.Frag) (x : Str) (ini : Bool) : List Bool :=
  [He.eqO (PySem.W.nsIn K mainGlobals x) (some (some (.ref (He.ga K x)))), PySem.W.plainGet K (He.ga K x) Str.empty, PySem.W.hasDictIn K (He.ga K x), PySem.W.plainOver K (He.ga K x), He.eqO (PySem.W.findIn K (.ref (He.ga K x)) "__setattr__") (some (some (.builtin "object.__setattr__"))),
   PySem.W.makesIn K (He.ga K x), PySem.W.keepIn K (.ref (He.ga K x)), He.eqO (PySem.W.findIn K (.ref (He.ga K x)) "__class__") (some (some (.builtin "object.__class__"))), eqB (PySem.W.mroIn K (He.ga K x) (.type "object")) (some true),
   allK.all (fun f => He.eqO (PySem.W.findIn K (.ref (He.ga K x)) f) (some none)), He.eqO (PySem.W.findIn K (.ref (He.ga K x)) "__eq__") (some (some (.ref (He.ma K (He.ga K x) "__eq__")))), PySem.W.isFn K (.ref (He.ma K (He.ga K x) "__eq__")), PySem.W.keepIn K (.ref (He.ma K (He.ga K x) "__eq__")),
   kcs.all (fun y => eqB (PySem.W.kitOne K (.ref (He.ga K x)) (.ref (He.ga K y.1))) (some (decide (x = y.1)))), tys.all (fun t => eqB (PySem.W.kitOne K (.ref (He.ga K x)) (.type t)) (some false)), tys.all (fun t => eqB (PySem.W.kitOne K (.type t) (.ref (He.ga K x))) (some false)),
   if ini then He.eqO (PySem.W.findIn K (.ref (He.ga K x)) "__init__") (some (some (.ref (He.ma K (He.ga K x) "__init__")))) && (PySem.W.isFn K (.ref (He.ma K (He.ga K x) "__init__")) && PySem.W.keepIn K (.ref (He.ma K (He.ga K x) "__init__"))) else He.eqO (PySem.W.findIn K (.ref (He.ga K x)) "__init__") (some (some (.builtin "object.__init__")))]
def exL (K : PySem.W.Frag) : List Bool :=
  [kcs.all (fun y => (kcL K y.1 y.2.2).all id), oexB K (He.ga K "BadKind"), He.eqO (PySem.W.nsIn K mainGlobals "BadKind") (some (some (.ref (He.ga K "BadKind")))), He.eqO (PySem.W.findIn K (.ref (He.ga K "BadKind")) "__setattr__") (some (some (.builtin "object.__setattr__"))),
   eqB (PySem.W.subIn K (.ref (He.ga K "BadKind")) (.type "BaseException")) (some true), decide (PySem.W.typeIn K (.ref (He.ga K "BadKind")) = some (.type "type")), PySem.W.keepIn K (.ref (He.ga K "BadKind")),
   He.eqO (PySem.W.findIn K (.ref (He.ga K "BadKind")) "__getattribute__") (some (some (.builtin "BaseException.__getattribute__"))), He.eqO (PySem.W.findIn K (.ref (He.ga K "BadKind")) "__getattr__") (some none), PySem.W.hasDictIn K (He.ga K "BadKind"),
   eqB (PySem.W.exmOne K (.ref (He.ga K "BadKind")) (.ref (He.ga K "BadKind"))) (some true), He.eqO (PySem.W.findIn K (.ref (He.ga K "BadKind")) "part") (some none), He.eqO (PySem.W.findIn K (.ref (He.ga K "BadKind")) "__init__") (some (some (.ref (He.ma K (He.ga K "BadKind") "__init__")))),
   decide (PySem.W.typeIn K (.ref (He.ma K (He.ga K "BadKind") "__init__")) = some (.type "function")), He.eqO (PySem.W.specialIn K (.builtin "object.__class__") "__get__") (some (some (.builtin "getset_descriptor.__get__"))), eqB (PySem.W.takesIn K (.builtin "object.__class__")) (some true)]
def exB (K : PySem.W.Frag) : Bool := (exL K).all id
def dG (x : Str) (i : Nat) : He.DefD := ⟨(x, none), x, x, defArgs (top i), defBody (top i), defScope (top i), [], []⟩
def dM (c m : Str) (i j : Nat) (d : List He.Dv) : He.DefD := ⟨(c, some m), m, c ++ "." ++ m, defArgs (inClass (top i) j), defBody (inClass (top i) j), defScope (inClass (top i) j), d, []⟩
def fn1 : List He.DefD := [dG "is_int" 1, dG "is_int_within" 2, dG "is_name" 3, dG "is_bits" 4, dG "is_word" 5, dG "is_simple" 15, dG "check_word_and_name" 22, dG "are_ways" 23, dG "are_parts" 24, dG "have_unlike_names" 25, dG "are_apart" 26, dG "_law_is_int" 28, dG "_law_same_dict" 29, dG "_law_same" 30, dG "_law_start" 31, dG "_law_pull" 32, dG "_law_odd" 33, dG "_law_word" 34, dG "_law_is_name" 35, dG "_law_object" 36, dG "_law_bits_or_not" 37, dG "_law_is_word" 38, dG "_law_object_of" 39, dG "_law_make" 40, dG "_law_told" 41, dG "_law_due" 42, dG "_law_thing" 43, dG "law" 44]
def fn2 : List He.DefD := [dM "BadKind" "__init__" 8 0 [], dM "Nothing" "__eq__" 10 0 [], dM "Number" "__init__" 11 0 [.non], dM "Number" "__eq__" 11 1 [], dM "Bits" "__init__" 12 0 [], dM "Bits" "__eq__" 12 1 [], dM "Call" "__init__" 13 0 [], dM "Call" "__eq__" 13 1 [], dM "Items" "__init__" 14 0 [.non], dM "Items" "__eq__" 14 1 [], dM "Way" "__init__" 16 0 [], dM "Way" "__eq__" 16 1 [], dM "Door" "__init__" 17 0 [], dM "Door" "__eq__" 17 1 [], dM "Part" "__init__" 18 0 [], dM "Part" "__eq__" 18 1 [], dM "Room" "__init__" 19 0 [], dM "Room" "__eq__" 19 1 [], dM "Choice" "__init__" 20 0 [], dM "Choice" "__eq__" 20 1 [], dM "Row" "__init__" 21 0 [], dM "Row" "__eq__" 21 1 []]
def fn : List He.DefD := fn1 ++ fn2
def gls : List Str := ["is_int", "is_int_within", "is_name", "is_bits", "is_word", "is_simple", "check_word_and_name", "are_ways", "are_parts", "have_unlike_names", "are_apart", "_law_is_int", "_law_same_dict", "_law_same", "_law_start", "_law_pull", "_law_odd", "_law_word", "_law_is_name", "_law_object", "_law_bits_or_not", "_law_is_word", "_law_object_of", "_law_make", "_law_told", "_law_due", "_law_thing", "law"]
def frees : List Str := ["isinstance", "int", "bool", "str", "dict", "list", "tuple", "len", "range", "all", "any", "enumerate"]
def fa : List He.Fa := gls.map .glo ++ frees.map .free
/-! ### the Hook -/
abbrev AlK : Type := He.AlD × Bool
def obsK (K : PySem.W.Frag) : AlK := (He.obsD fa fn K, exB K)
def valK : AlK := (He.valD fn, true)
def obK (g : Addr → Option Obj) : AlK := obsK (He.frG g (He.asD g 4))
def hk : PySem.W.Hook where
  α := AlK
  obs := fun s => obK s.heap.get?
  val := fun _ => valK
  says := fun _ h => ∃ K : PySem.W.Frag, K.In h ∧ obsK K = valK
  of := fun _ _ e => ⟨_, He.frG_in, e⟩
  keeps := fun _ _ _ ⟨K, hK, c⟩ k => ⟨K, PySem.W.Frag.In.keeps hK k, c⟩
theorem obK_eq {g : Addr → Option Obj} {s : Shared} (h : ∀ a, g a = s.heap.get? a) : obK g = hk.obs s := by
  have e : g = s.heap.get? := funext h
  rw [e] <;> rfl
end Me
set_option maxHeartbeats 0
namespace Me
open PySem PySem.Spec PyProof.Rows L2
abbrev R : PySem.W.OpenRow := PySem.W.OpenLaw.row PySem.Challenge.rw_roomleft_k03_ways_doors_parts_and_rooms
def ob (s : PySem.W.SharedT) : AlK := obK (HandSHeadRun.getT s)
theorem ob_eq (s : PySem.W.SharedT) : ob s = hk.obs s.abs := obK_eq (HandSHeadRun.getT_eq s)
def loose1 : List PySem.Str := ["RoomError", "BadKind", "Nothing", "Number", "Bits", "Call", "Items", "Way", "Door", "Part", "Room", "Choice", "Row"]
def loose2 : List PySem.Str := ["is_int", "is_int_within", "is_name", "is_bits", "is_word", "is_simple", "check_word_and_name", "are_ways", "are_parts", "have_unlike_names", "are_apart", "_law_is_int", "_law_same_dict"]
def loose3 : List PySem.Str := ["_law_same", "_law_start", "_law_pull", "_law_odd", "_law_word", "_law_is_name", "_law_object", "_law_bits_or_not", "_law_is_word", "_law_object_of", "_law_make", "_law_told", "_law_due"]
def loose4 : List PySem.Str := ["_law_thing"]
def loose : List PySem.Str := loose1 ++ loose2 ++ loose3 ++ loose4
theorem run (w : World) : HandSHeadRun.RunEq R (PySem.W.view R.prog [44]) hk ob 4700 loose w := by
  intro os
  kernel_rfl
end Me
set_option maxHeartbeats 8000000
namespace Me
open PySem L2
/-! ### the readings, one step each, what follows last -/
section
variable {σ : L2.St} {H : Hp} {Q : VK} {QB : Bool → Hp → Prop} {QA : List V → Hp → Prop} {D : Ends} {K : PySem.W.Frag}
theorem i_var {i : Nat} {v : V} (e : σ[i]? = some (some v)) (q : Q v H) : tVar i σ H Q := ⟨v, e, q⟩
theorem i_c {v : V} (q : Q v H) : tC v σ H Q := q
theorem i_op {r : R2} {ta tb : TE} (q : ta σ H fun x H1 => tb σ H1 fun y H2 => r x y H2 Q) : tOp r ta tb σ H Q := q
theorem i_un {r : V → Hp → VK → Prop} {ta : TE} (q : ta σ H fun x H1 => r x H1 Q) : tUn r ta σ H Q := q
theorem i_nil (q : QA [] H) : tNil σ H QA := q
theorem i_cons {ta : TE} {tr : TA} (q : ta σ H fun x H1 => tr σ H1 fun xs H2 => QA (x :: xs) H2) : tCons ta tr σ H QA := q
theorem i_cb {r : List V → Hp → VK → Prop} {t : TA} (q : t σ H fun vs H1 => r vs H1 Q) : tCB r t σ H Q := q
theorem i_call {sp : Sp} {dvs : List V} {E : XK} {t : TA} (q : t σ H fun vs H1 => sp (vs ++ dvs) H1 Q E) : tCall sp dvs E t σ H Q := q
theorem i_seq {t u : TS} (q : t { D with nx := u D } σ H) : tSeq t u D σ H := q
theorem i_next (q : D.nx σ H) : tNext D σ H := q
theorem i_asg {te : TE} {g : TG} (q : te σ H fun x H1 => g x σ H1 D.nx) : tAsg te g D σ H := q
theorem i_gname {i : Nat} {v : V} {R : L2.St → Hp → Prop} (q : R (σ.set i (some v)) H) : gName i v σ H R := q
theorem i_gsub {to ti : TE} {t : TSet} {v : V} {R : L2.St → Hp → Prop} (q : to σ H fun o H1 => ti σ H1 fun i H2 => t o i v H2 fun H3 => R σ H3) : gSub to ti t v σ H R := q
theorem i_ret {te : TE} (q : te σ H D.rt) : tRet te D σ H := q
theorem i_retN (q : D.rt .non H) : tRetN D σ H := q
theorem i_drop {te : TE} (q : te σ H fun _ H1 => D.nx σ H1) : tDrop te D σ H := q
theorem i_ifS {c : TT} {t u : TS} (q : c σ H fun b H1 => if b = true then t D σ H1 else u D σ H1) : tIfS c t u D σ H := q
theorem i_if {c : TT} {ta tb : TE} (q : c σ H fun b H1 => if b = true then ta σ H1 Q else tb σ H1 Q) : tIf c ta tb σ H Q := q
theorem i_and {t u : TT} (q : t σ H fun c H1 => if c = true then u σ H1 QB else QB false H1) : tAnd t u σ H QB := q
theorem i_or {t u : TT} (q : t σ H fun c H1 => if c = true then QB true H1 else u σ H1 QB) : tOr t u σ H QB := q
theorem i_not {t : TT} (q : t σ H fun c H1 => QB (!c) H1) : tNot t σ H QB := q
theorem i_andV {ta tb : TE} (q : ta σ H fun x H1 => ∃ c, x = .bl c ∧ if c = true then tb σ H1 Q else Q (.bl false) H1) : tAndV ta tb σ H Q := q
theorem i_orV {ta tb : TE} (q : ta σ H fun x H1 => ∃ c, x = .bl c ∧ if c = true then Q (.bl true) H1 else tb σ H1 Q) : tOrV ta tb σ H Q := q
theorem i_notV {ta : TE} (q : ta σ H fun x H1 => ∃ c, x = .bl c ∧ Q (.bl (!c)) H1) : tNotV ta σ H Q := q
theorem i_test {t : TE} (q : t σ H fun x H' => ∃ k, x = .bl k ∧ QB k H') : tTest t σ H QB := q
theorem i_tB {t : TE} (q : t σ H fun x H' => ∃ k, x = .bl k ∧ QB k H') : tB t σ H QB := q
theorem i_bl {b : Bool} {R : Bool → Prop} (q : R b) : ∃ k, V.bl b = .bl k ∧ R k := ⟨b, rfl, q⟩
theorem i_rI0 {g : Int → Int → V} {i j : Int} (q : Q (g i j) H) : rI0 g (.int i) (.int j) H Q := ⟨i, j, rfl, rfl, q⟩
theorem i_rI {C : Int → Int → Prop} {g : Int → Int → V} {i j : Int} (c : C i j) (q : Q (g i j) H) : rI C g (.int i) (.int j) H Q := ⟨i, j, rfl, rfl, c, q⟩
theorem i_rU {g : Int → V} {i : Int} (q : Q (g i) H) : rU g (.int i) H Q := ⟨i, rfl, q⟩
theorem i_rEq {x y : V} (s : scal x y = true) (q : Q (.bl (decide (x = y))) H) : rEq x y H Q := ⟨s, q⟩
theorem i_rNe {x y : V} (s : scal x y = true) (q : Q (.bl (!decide (x = y))) H) : rNe x y H Q := ⟨s, q⟩
theorem i_ixl {p : Addr} {xs : List V} {i : Int} {v : V} (h : H p = some (.lst xs)) (e : atI xs i = some v) (q : Q v H) : rIxL K (.ref p) (.int i) H Q := ⟨p, xs, i, v, rfl, rfl, SqL.of h, e, q⟩
theorem i_ixt {p : Addr} {xs : List V} {i : Int} {v : V} (h : H p = some (.tup xs)) (e : atI xs i = some v) (q : Q v H) : rIxT K (.ref p) (.int i) H Q := ⟨p, xs, i, v, rfl, rfl, SqT.of h, e, q⟩
theorem i_setl {p : Addr} {xs : List V} {k : Int} {j : Nat} {v : V} {R : Hp → Prop} (h : H p = some (.lst xs)) (e : ixN xs.length k = some j) (q : R (upd H p (.lst (xs.set j v)))) : rSetL (.ref p) (.int k) v H R := ⟨p, xs, k, j, rfl, rfl, h, e, q⟩
theorem i_lst {t : TA} (q : t σ H fun xs H1 => xs.length ≤ sizeLine ∧ ∀ p, H1 p = none → Q (.ref p) (upd H1 p (.lst xs))) : tLst t σ H Q := q
theorem i_tup {t : TA} (q : t σ H fun xs H1 => xs.length ≤ sizeLine ∧ ∀ p, H1 p = none → Q (.ref p) (upd H1 p (.tup xs))) : tTup t σ H Q := q
theorem i_dnew (q : ∀ p, H p = none → Q (.ref p) (upd H p (.dK []))) : tDNewK σ H Q := q
theorem i_len {p : Addr} {xs : List V} {R : V → Hp → Prop} {vs : List V} (ev : vs = [.ref p]) (h : H p = some (.lst xs)) (q : R (.int xs.length) H) : ∃ (p : Addr) (ys : List V), vs = [V.ref p] ∧ (SqL K H p ys ∨ SqT K H p ys) ∧ R (.int ys.length) H := ⟨p, xs, ev, .inl (SqL.of h), q⟩
theorem i_lenT {p : Addr} {xs : List V} {R : V → Hp → Prop} {vs : List V} (ev : vs = [.ref p]) (h : H p = some (.tup xs)) (q : R (.int xs.length) H) : ∃ (p : Addr) (ys : List V), vs = [V.ref p] ∧ (SqL K H p ys ∨ SqT K H p ys) ∧ R (.int ys.length) H := ⟨p, xs, ev, .inr (SqT.of h), q⟩
end
/-! ### tests -/
theorem i_itd {p : Prop} [Decidable p] {A B : Prop} (ht : p → A) (hf : ¬ p → B) : if decide p = true then A else B := by
  by_cases h : p
  · rw [if_pos (decide_eq_true h)]; exact ht h
  · rw [decide_eq_false h, if_neg Bool.false_ne_true]; exact hf h
theorem i_itn {p : Prop} [Decidable p] {A B : Prop} (ht : ¬ p → A) (hf : p → B) : if (!decide p) = true then A else B := by
  by_cases h : p
  · rw [decide_eq_true h]; exact hf h
  · rw [decide_eq_false h]; exact ht h
theorem i_itb {c : Bool} {A B : Prop} (ht : c = true → A) (hf : c = false → B) : if c = true then A else B := by
  cases c
  · exact hf rfl
  · exact ht rfl
theorem i_itei {a b : Int} {A B : Prop} (ht : a = b → A) (hf : a ≠ b → B) : if decide (V.int a = V.int b) = true then A else B :=
  i_itd (fun h => ht (V.int.inj h)) fun h => hf fun e => h (by rw [e])
theorem i_iten {a b : Int} {A B : Prop} (ht : a ≠ b → A) (hf : a = b → B) : if (!decide (V.int a = V.int b)) = true then A else B :=
  i_itn (fun h => ht fun e => h (by rw [e])) fun h => hf (V.int.inj h)
theorem i_ites {a b : Str} {A B : Prop} (ht : a = b → A) (hf : a ≠ b → B) : if decide (V.str a = V.str b) = true then A else B :=
  i_itd (fun h => ht (V.str.inj h)) fun h => hf fun e => h (by rw [e])
theorem i_itesn {a b : Str} {A B : Prop} (ht : a ≠ b → A) (hf : a = b → B) : if (!decide (V.str a = V.str b)) = true then A else B :=
  i_itn (fun h => ht fun e => h (by rw [e])) fun h => hf (V.str.inj h)
/-! ### the heap -/
theorem upd_get {H : Hp} {a b : Addr} {o : HO} {u : Option HO} (n : b ≠ a) (h : H b = u) : upd H a o b = u := by rw [upd_ne n]; exact h
theorem upd_none {H : Hp} {a b : Addr} {o : HO} (h : upd H a o b = none) : b ≠ a ∧ H b = none := by
  by_cases e : b = a
  · subst e; rw [upd_same] at h; cases h
  · rw [upd_ne e] at h; exact ⟨e, h⟩
theorem ne_lt {H : Hp} {a b : Addr} {xs ys : List V} (h : H a = some (.lst xs)) (h' : H b = some (.tup ys)) : a ≠ b := ne_of h h' (by intro z; cases z)
theorem ne_ll {H : Hp} {a b : Addr} {xs ys : List V} (h : H a = some (.lst xs)) (h' : H b = some (.lst ys)) (n : xs ≠ ys) : a ≠ b := ne_of h h' (by intro z; cases z; exact n rfl)
/-! ### the script's reader -/
/-- at p: a list of the items' list (at L), a place, a number that is used up, a number that is stirred -/
def StAt (H : Hp) (p L : Addr) : Prop := ∃ (ns : List Int) (i b c : Int), H p = some (.lst [.ref L, .int i, .int b, .int c]) ∧ H L = some (.lst (ns.map V.int)) ∧ ns.length ≤ 63 ∧ 0 ≤ i ∧ 0 ≤ b ∧ 0 ≤ c ∧ c < 2147483647
def StOk (H : Hp) (p : Addr) : Prop := ∃ L, StAt H p L
/-- the reader has gone on, nothing else has changed -/
def Went (p : Addr) (H H' : Hp) : Prop := StOk H' p ∧ (∀ a o, a ≠ p → H a = some o → H' a = some o) ∧ ∀ L, StAt H p L → StAt H' p L
theorem Went.get {p : Addr} {H H' : Hp} {a : Addr} {o : HO} (w : Went p H H') (n : a ≠ p) (h : H a = some o) : H' a = some o := w.2.1 a o n h
theorem Went.trans {p : Addr} {H H1 H2 : Hp} (a : Went p H H1) (b : Went p H1 H2) : Went p H H2 := ⟨b.1, fun x o n h => b.2.1 x o n (a.2.1 x o n h), fun L h => b.2.2 L (a.2.2 L h)⟩
theorem StAt.uniq {H : Hp} {p L L' : Addr} (h : StAt H p L) (h' : StAt H p L') : L = L' := by
  obtain ⟨_, _, _, _, e, _⟩ := h
  obtain ⟨_, _, _, _, e', _⟩ := h'
  rw [e] at e'
  injection e' with e'
  injection e' with e'
  injection e' with e' _
  exact V.ref.inj e'
theorem went_mk {H H' : Hp} {p L : Addr} (h : StAt H p L) (h' : StAt H' p L) (f : ∀ a o, a ≠ p → H a = some o → H' a = some o) : Went p H H' := ⟨⟨L, h'⟩, f, fun L' q => by rw [← h.uniq q]; exact h'⟩
theorem kb_NoneType_int : kitB "NoneType" "int" = some false := by decide +kernel
theorem kb_NoneType_bool : kitB "NoneType" "bool" = some false := by decide +kernel
theorem kb_NoneType_str : kitB "NoneType" "str" = some false := by decide +kernel
theorem kb_NoneType_dict : kitB "NoneType" "dict" = some false := by decide +kernel
theorem kb_NoneType_list : kitB "NoneType" "list" = some false := by decide +kernel
theorem kb_NoneType_tuple : kitB "NoneType" "tuple" = some false := by decide +kernel
theorem kb_bool_int : kitB "bool" "int" = some true := by decide +kernel
theorem kb_bool_bool : kitB "bool" "bool" = some true := by decide +kernel
theorem kb_bool_str : kitB "bool" "str" = some false := by decide +kernel
theorem kb_bool_dict : kitB "bool" "dict" = some false := by decide +kernel
theorem kb_bool_list : kitB "bool" "list" = some false := by decide +kernel
theorem kb_bool_tuple : kitB "bool" "tuple" = some false := by decide +kernel
theorem kb_int_int : kitB "int" "int" = some true := by decide +kernel
theorem kb_int_bool : kitB "int" "bool" = some false := by decide +kernel
theorem kb_int_str : kitB "int" "str" = some false := by decide +kernel
theorem kb_int_dict : kitB "int" "dict" = some false := by decide +kernel
theorem kb_int_list : kitB "int" "list" = some false := by decide +kernel
theorem kb_int_tuple : kitB "int" "tuple" = some false := by decide +kernel
theorem kb_str_int : kitB "str" "int" = some false := by decide +kernel
theorem kb_str_bool : kitB "str" "bool" = some false := by decide +kernel
theorem kb_str_str : kitB "str" "str" = some true := by decide +kernel
theorem kb_str_dict : kitB "str" "dict" = some false := by decide +kernel
theorem kb_str_list : kitB "str" "list" = some false := by decide +kernel
theorem kb_str_tuple : kitB "str" "tuple" = some false := by decide +kernel
theorem kb_tuple_int : kitB "tuple" "int" = some false := by decide +kernel
theorem kb_tuple_bool : kitB "tuple" "bool" = some false := by decide +kernel
theorem kb_tuple_str : kitB "tuple" "str" = some false := by decide +kernel
theorem kb_tuple_dict : kitB "tuple" "dict" = some false := by decide +kernel
theorem kb_tuple_list : kitB "tuple" "list" = some false := by decide +kernel
theorem kb_tuple_tuple : kitB "tuple" "tuple" = some true := by decide +kernel
theorem kb_list_int : kitB "list" "int" = some false := by decide +kernel
theorem kb_list_bool : kitB "list" "bool" = some false := by decide +kernel
theorem kb_list_str : kitB "list" "str" = some false := by decide +kernel
theorem kb_list_dict : kitB "list" "dict" = some false := by decide +kernel
theorem kb_list_list : kitB "list" "list" = some true := by decide +kernel
theorem kb_list_tuple : kitB "list" "tuple" = some false := by decide +kernel
theorem kb_dict_int : kitB "dict" "int" = some false := by decide +kernel
theorem kb_dict_bool : kitB "dict" "bool" = some false := by decide +kernel
theorem kb_dict_str : kitB "dict" "str" = some false := by decide +kernel
theorem kb_dict_dict : kitB "dict" "dict" = some true := by decide +kernel
theorem kb_dict_list : kitB "dict" "list" = some false := by decide +kernel
theorem kb_dict_tuple : kitB "dict" "tuple" = some false := by decide +kernel
theorem i_isi {K : PySem.W.Frag} {H : Hp} {Q : VK} {x : V} {t n : String} {b : Bool} (ty : TyX K H x (.type t)) (e : kitB t n = some b) (q : Q (.bl b) H) : rIsi K [x, .ty n] H Q := ⟨x, .ty n, .type t, .type n, b, rfl, .ty n, ty, kit_ty e, q⟩
end Me
set_option maxHeartbeats 8000000
namespace Me
open PySem L2
abbrev PP : Program := PySem.Challenge.rw_roomleft_k03_ways_doors_parts_and_rooms.prog
structure DA where
  f : Addr
  fd : FuncData
/-- a def of the text -/
structure Df (K : PySem.W.Frag) (mg : Str → Option Value) (x : Str) (st : Stmt) (ps : List Str) (d : DA) : Prop where
  fn : FunD K x x (defArgs st) (defBody st) (defScope st) [] [] d.f d.fd
  mg : mg x = some (.ref d.f)
  b : Binds K d.fd ps []
theorem Df.kp {K : PySem.W.Frag} {mg : Str → Option Value} {x : Str} {st : Stmt} {ps : List Str} {d : DA} (h : Df K mg x st ps d) : PySem.W.keepIn K (.ref d.f) = true := h.fn.kp
theorem ok0 {P : Program} {w : World} {K : PySem.W.Frag} {mg : Str → Option Value} {base : Heap} {x qual : Str} {params : Arguments} {body : List Stmt} {scope : Scope} {dv : List V} {f : Addr} {fd : FuncData} {N ps : List Str} {k : Nat} {sp : Sp} (F : FunD K x qual params body scope dv [] f fd) (S : FnScope N ps scope) (len : ∀ vs H Q E, sp vs H Q E → vs.length = ps.length)
    (go : ∀ (cdv : Value) (A : Around) (outer : List Env) (s : Shared) (H : Hp) (vs : List V) (Q : VK) (E : XK), Room k (A.deeper (PyProof.Rows.envOfC qual scope s.heap.objs.size f cdv)) → sp vs H Q E →
      ∃ t, PSs (cxOf CX0 P w K mg base N qual scope f cdv A outer s H E).nox body t ∧ t { nx := fun _ H' => Q .non H', rt := Q } (start N vs) H) : FnOk P w K mg base CX0 (k + 1) f fd ps sp := by
  refine F.ok S len fun cdv A outer s H vs Q E hr h => ?_
  obtain ⟨t, h1, q⟩ := go cdv A outer s H vs Q E hr h
  exact ⟨t, h1.nox, q⟩
theorem Df.ok {P : Program} {w : World} {K : PySem.W.Frag} {mg : Str → Option Value} {base : Heap} {x : Str} {st : Stmt} {ps ps' N : List Str} {d : DA} {k : Nat} {sp : Sp} (D : Df K mg x st ps' d) (S : FnScope N ps (defScope st)) (len : ∀ vs H Q E, sp vs H Q E → vs.length = ps.length)
    (go : ∀ (cdv : Value) (A : Around) (outer : List Env) (s : Shared) (H : Hp) (vs : List V) (Q : VK) (E : XK), Room k (A.deeper (PyProof.Rows.envOfC x (defScope st) s.heap.objs.size d.f cdv)) → sp vs H Q E →
      ∃ t, PSs (cxOf CX0 P w K mg base N x (defScope st) d.f cdv A outer s H E).nox (defBody st) t ∧ t { nx := fun _ H' => Q .non H', rt := Q } (start N vs) H) : FnOk P w K mg base CX0 (k + 1) d.f d.fd ps sp := ok0 D.fn S len go
theorem Df.okX {P : Program} {w : World} {K : PySem.W.Frag} {mg : Str → Option Value} {base : Heap} {x : Str} {st : Stmt} {ps ps' N : List Str} {d : DA} {k : Nat} {sp : Sp} (D : Df K mg x st ps' d) (S : FnScope N ps (defScope st)) (len : ∀ vs H Q E, sp vs H Q E → vs.length = ps.length)
    (go : ∀ (cdv : Value) (A : Around) (outer : List Env) (s : Shared) (H : Hp) (vs : List V) (Q : VK) (E : XK), Room k (A.deeper (PyProof.Rows.envOfC x (defScope st) s.heap.objs.size d.f cdv)) → sp vs H Q E →
      ∃ t, PSs (cxOf (L2.CX P w) P w K mg base N x (defScope st) d.f cdv A outer s H E) (defBody st) t ∧ t { nx := fun _ H' => Q .non H', rt := Q } (start N vs) H) : FnOk P w K mg base (L2.CX P w) (k + 1) d.f d.fd ps sp := D.fn.ok S len go
/-! ### BadKind(part) -/
def spI1 (C : Addr) (f : Str) : Sp := fun vs H Q _ => ∃ (a : Addr) (y : V), vs = [.ref a, y] ∧ H a = some (exo a C none) ∧ ∀ dx, H dx = none → dx ≠ a → Q .non (upd (upd H dx (exd dx [(f, y)])) a (exo a C (some dx)))
structure BadT (K : PySem.W.Frag) (mg : Str → Option Value) (C : Addr) (I : DA) : Prop where
  ox : OexC K C
  gl : mg "BadKind" = some (.ref C)
  xf : XfC K C
  ex : PySem.W.exmOne K (.ref C) (.ref C) = some true
  no : PySem.W.findIn K (.ref C) "part" = some none
  ini : PySem.W.findIn K (.ref C) "__init__" = some (some (.ref I.f))
  ti : PySem.W.typeIn K (.ref I.f) = some (.type "function")
  fn : FunD K "__init__" "BadKind.__init__" (defArgs (inClass (top 8) 0)) (defBody (inClass (top 8) 0)) (defScope (inClass (top 8) 0)) [] [] I.f I.fd
  b : Binds K I.fd ["self", "part"] []
theorem PS.imp {X : Cx} {st : Stmt} {t t' : TS} (h : PS X st t) (i : ∀ D σ H, t' D σ H → t D σ H) : PS X st t' := ⟨fun pins s σ H D I q => h.run pins s σ H D I (i D σ H q)⟩
theorem ne_none {H : Hp} {a b : Addr} {o : HO} (h' : H a = none) (h : H b = some o) : b ≠ a := ne_of_none h h'
theorem heap1 {H : Hp} {a dx : Addr} {o1 o2 o3 o : HO} (ha : H a = none) (hd : dx ≠ a) : upd (del (upd (upd (upd H a o1) dx o2) a o3) a) dx o = upd H dx o := by
  funext b
  by_cases h1 : b = dx
  · subst h1; rw [upd_same, upd_same]
  · rw [upd_ne h1, upd_ne h1]
    by_cases h2 : b = a
    · subst h2; rw [del_same, ha]
    · rw [del_ne h2, upd_ne h2, upd_ne h1, upd_ne h2]
/-- BadKind(z) is on its way -/
def badW (C : Addr) (z : Str) (W : Value → Option Addr → Hp → Prop) (H : Hp) : Prop := ∀ d, H d = none → W (.ref C) (some d) (upd H d (.xd [("part", .str z)]))
def tBad (C : Addr) (z : Str) (W : WX) : TS := fun _ σ H => badW C z (fun c d H' => W c d σ H') H
section
variable {P : Program} {w : World} {K : PySem.W.Frag} {mg : Str → Option Value} {base : Heap} {C : Addr} {I : DA}
theorem ok_bad (B : BadT K mg C I) : FnOk P w K mg base CX0 1 I.f I.fd ["self", "part"] (spI1 C "part") := by
  refine ok0 B.fn (⟨rfl, rfl, rfl, by decide +kernel, rfl, by decide +kernel, by decide +kernel⟩ : FnScope ["self", "part"] ["self", "part"] _) (fun vs H Q E h => ?_) (fun cdv A outer s H vs Q E' hr h => ?_)
  · obtain ⟨a, y, rfl, _⟩ := h
    rfl
  · obtain ⟨a, y, rfl, e, k⟩ := h
    refine ⟨_, pss_one (ps_ost (pv 0) (pv 1)), ?_⟩
    exact ⟨_, rfl, _, rfl, a, C, rfl, B.ox, B.no, .inl ⟨e, fun dx n ne => k dx n ne⟩⟩
theorem ps_bad {X : Cx} {z : Str} {W : WX} {p p2 pos pos2 : Pos} {j : Nat} (B : BadT X.K X.mg C I) (hc : X.calm = true) (hr : Room 2 X.A) (tk : Takes X W) (hg : Gl X "BadKind" := by rfl)
    (hs : starEach [.Constant (.str z) j p2] X.env = [(false, eval (.Constant (.str z) j p2) X.env)] := by rfl) :
    PS X (.Raise (some (.Call (.Name "BadKind" p) [.Constant (.str z) j p2] [] pos)) none pos2) (tBad C z W) := by
  refine PS.imp (ps_raise hc tk (pmk_oex (dvs := []) B.ox B.ini B.ti (ok_bad B) hr B.b .nil pass0 hg B.gl (pa_cons pe_str pa_nil hs) (by decide) hs rfl)) fun D σ H h => ?_
  refine ⟨by show 1 ≤ 1000; decide, fun a na => ⟨a, .str z, rfl, upd_same, fun dx hd ne => ⟨rfl, dx, [("part", .str z)], ?_, ?_, ?_, ?_⟩⟩⟩
  · exact upd_same
  · rw [upd_ne ne, upd_same]
  · rw [upd_ne ne] at hd; exact hd
  · rw [heap1 na ne]
    rw [upd_ne ne] at hd
    exact h dx hd
end
/-! ### the classes of kinds -/
def kn (i : Nat) : Str := (kcs.getD i ("", [], false)).1
structure Kc (K : PySem.W.Frag) (mg : Str → Option Value) (C : Nat → Addr) (E : Nat → DA) (i : Nat) : Prop where
  gl : mg (kn i) = some (.ref (C i))
  cl : Cls K (C i)
  mks : PySem.W.makesIn K (C i) = true
  kp : PySem.W.keepIn K (.ref (C i)) = true
  cc : PySem.W.findIn K (.ref (C i)) "__class__" = some (some (.builtin "object.__class__"))
  cm : PySem.W.mroIn K (C i) (.type "object") = some true
  no : ∀ f ∈ allK, NoAttr K (C i) f
  eqA : PySem.W.findIn K (.ref (C i)) "__eq__" = some (some (.ref (E i).f))
  eqF : PySem.W.isFn K (.ref (E i).f) = true
  kt : ∀ j, j < 11 → PySem.W.kitOne K (.ref (C i)) (.ref (C j)) = some (decide (i = j))
  kT : ∀ t ∈ tys, PySem.W.kitOne K (.ref (C i)) (.type t) = some false
  tK : ∀ t ∈ tys, PySem.W.kitOne K (.type t) (.ref (C i)) = some false
  sp : PySem.W.specialIn K (.builtin "object.__class__") "__get__" = some (some (.builtin "getset_descriptor.__get__"))
  tk : PySem.W.takesIn K (.builtin "object.__class__") = some true
theorem Kc.ty {K : PySem.W.Frag} {mg : Str → Option Value} {C : Nat → Addr} {E : Nat → DA} {i : Nat} (k : Kc K mg C E i) {H : Hp} {a dx : Addr} {fs : List (Str × V)} (h : H a = some (.ins (C i) dx fs)) : TyX K H (.ref a) (.ref (C i)) := .base (.ins h k.cl k.cc k.sp k.tk k.cm)
/-- a call of a class whose __init__ may raise, in a try's body or a def that lets the error out: the wish at all slots -/
theorem passW {X : Cx} {W : WX} (tk : Takes X W) : Passes (L2.CX X.prog X.w) X (fun cls d H => ∀ σ, σ.length = X.N.length → W cls d σ H) := by
  intro pins σ H s e s' I c
  exact tk e s' (XE.of_call I (fun _ _ _ h => h σ I.len) c)
theorem passF {X : Cx} : Passes (L2.CX X.prog X.w) X E0 := passL
/-- C(), no __init__ of its own -/
def tMk0 (C : Addr) : TE := fun _ H Q => ∀ x dx, H x = none → H dx = none → dx ≠ x → Q (.ref x) (upd (upd H dx (.own x)) x (.ins C dx []))
theorem pe_mk0 {X : Cx} {C : Addr} {x : Str} {p pos : Pos} (mk : PySem.W.makesIn X.K C = true) (ini : PySem.W.findIn X.K (.ref C) "__init__" = some (some (.builtin "object.__init__"))) (kp : PySem.W.keepIn X.K (.ref C) = true) (hm : X.mg x = some (.ref C)) (hg : Gl X x := by rfl)
    (hdb : (x == ("__debug__" : Str)) = false := by decide) : PE X (.Call (.Name x p) [] [] pos) (tMk0 C) := by
  refine ⟨fun pins s σ H Q I h => ?_⟩
  refine wpAny_Call_Name_kw (ld_glob I hg hm (PySem.W.callWith_K0 I.kIn kp ?_) hdb)
  show wpAny _ _ (call (.ref C) []) _ _ _
  have hq := h (s.heap.objs.size + 1) s.heap.objs.size (I.hok.fresh (Nat.le_succ _)) (I.hok.fresh (Nat.le_refl _)) (Nat.ne_of_lt (Nat.lt_succ_self _))
  have I2 := Inv.made (C := C) I
  have Y := PySem.W.makes_of (M := model X.prog X.w) I.kIn mk
  have old : ∀ b o, s.heap.get? b = some o → ((s.heap.push PySem.W.emptyDict).push (PySem.W.instObj C s.heap.objs.size)).get? b = some o := fun b o e => Heap.get?_push_of_some _ (Heap.get?_push_of_some _ e)
  have here : ((s.heap.push PySem.W.emptyDict).push (PySem.W.instObj C s.heap.objs.size)).get? (s.heap.objs.size + 1) = some (PySem.W.instObj C s.heap.objs.size) := by
    have z := Heap.get?_push_size (s.heap.push PySem.W.emptyDict) (o := PySem.W.instObj C s.heap.objs.size) rfl
    rwa [Heap.size_push] at z
  refine wpAny_call (make_map0 I.kIn mk ini (fun self => PySem.W.Looks.of_pure (PySem.W.oi_bind self)) ?_)
  have t1 : PySem.W.Looks (model X.prog X.w) ((s.heap.push PySem.W.emptyDict).push (PySem.W.instObj C s.heap.objs.size)) (isInstance (.ref (s.heap.objs.size + 1)) (.type "object")) true :=
    ((PySem.W.Looks.ld here).andThen .now).andThen (Y.top.keeps old)
  refine codeAny_call_builtin PySem.W.oi_plain PySem.W.entry_oi (@PySem.W.check_slot (model X.prog X.w) _ _ _ "object.__init__" "object" "__init__" (.ref (s.heap.objs.size + 1)) [] [] _ PySem.W.oi_kind PySem.W.oi_split t1 (PySem.W.oi_args _) ?_)
  rw [PySem.W.oi_run]
  exact wpAny_pure ⟨rfl, ⟨V.ref (s.heap.objs.size + 1), _, I2, rfl, hq⟩⟩
end Me
local macro_rules | `(tactic| walk_at "kb") => `(tactic| first | with_reducible exact Me.kb_NoneType_int | with_reducible exact Me.kb_NoneType_bool | with_reducible exact Me.kb_NoneType_str | with_reducible exact Me.kb_NoneType_dict | with_reducible exact Me.kb_NoneType_list | with_reducible exact Me.kb_NoneType_tuple | with_reducible exact Me.kb_bool_int | with_reducible exact Me.kb_bool_bool | with_reducible exact Me.kb_bool_str | with_reducible exact Me.kb_bool_dict | with_reducible exact Me.kb_bool_list | with_reducible exact Me.kb_bool_tuple | with_reducible exact Me.kb_int_int | with_reducible exact Me.kb_int_bool | with_reducible exact Me.kb_int_str | with_reducible exact Me.kb_int_dict | with_reducible exact Me.kb_int_list | with_reducible exact Me.kb_int_tuple | with_reducible exact Me.kb_str_int | with_reducible exact Me.kb_str_bool | with_reducible exact Me.kb_str_str | with_reducible exact Me.kb_str_dict | with_reducible exact Me.kb_str_list | with_reducible exact Me.kb_str_tuple | with_reducible exact Me.kb_tuple_int | with_reducible exact Me.kb_tuple_bool | with_reducible exact Me.kb_tuple_str | with_reducible exact Me.kb_tuple_dict | with_reducible exact Me.kb_tuple_list | with_reducible exact Me.kb_tuple_tuple | with_reducible exact Me.kb_list_int | with_reducible exact Me.kb_list_bool | with_reducible exact Me.kb_list_str | with_reducible exact Me.kb_list_dict | with_reducible exact Me.kb_list_list | with_reducible exact Me.kb_list_tuple | with_reducible exact Me.kb_dict_int | with_reducible exact Me.kb_dict_bool | with_reducible exact Me.kb_dict_str | with_reducible exact Me.kb_dict_dict | with_reducible exact Me.kb_dict_list | with_reducible exact Me.kb_dict_tuple)
local macro_rules | `(tactic| walk_at "hp") => `(tactic| first | with_reducible assumption | with_reducible exact L2.upd_same | ((with_reducible refine' Me.upd_get ?n ?h); (case h => walk_at "hp"); (case n => walk_at "ne")) | ((with_reducible refine' Me.Went.get ?w ?n ?h); (case w => with_reducible assumption); (case h => walk_at "hp"); (case n => walk_at "ne")))
local macro_rules | `(tactic| walk_at "ne") => `(tactic| first | with_reducible assumption | ((with_reducible refine Ne.symm ?_); with_reducible assumption) | ((with_reducible refine' Me.ne_none ?n ?h); (case n => with_reducible assumption); (case h => walk_at "hp")) | ((with_reducible refine' Ne.symm (Me.ne_none ?n ?h)); (case n => with_reducible assumption); (case h => walk_at "hp")))
local macro_rules | `(tactic| walk_at "side") => `(tactic| first | rfl | assumption | omega | decide | (constructor <;> first | rfl | assumption | omega | decide) | (refine ⟨?_, ?_, ?_⟩ <;> first | omega | decide) | (refine Or.inl ⟨?_, ?_⟩ <;> first | omega | decide) | (refine Or.inr ⟨?_, ?_⟩ <;> first | omega | decide))
local macro_rules | `(tactic| walk_at "go1") => `(tactic| first
  | with_reducible refine Me.i_seq ?_ | with_reducible refine Me.i_var rfl ?_ | with_reducible refine Me.i_c ?_ | with_reducible refine Me.i_op ?_ | with_reducible refine Me.i_cons ?_ | with_reducible refine Me.i_nil ?_
  | with_reducible refine Me.i_cb ?_ | with_reducible refine Me.i_call ?_ | with_reducible refine Me.i_asg ?_ | with_reducible refine Me.i_gname ?_ | with_reducible refine Me.i_gsub ?_ | with_reducible refine Me.i_ret ?_ | with_reducible refine Me.i_retN ?_
  | with_reducible refine Me.i_drop ?_ | with_reducible refine Me.i_ifS ?_ | with_reducible refine Me.i_if ?_ | with_reducible refine Me.i_and ?_ | with_reducible refine Me.i_or ?_ | with_reducible refine Me.i_not ?_ | with_reducible refine Me.i_test ?_ | with_reducible refine Me.i_tB ?_
  | with_reducible refine Me.i_andV ?_ | with_reducible refine Me.i_orV ?_ | with_reducible refine Me.i_notV ?_ | with_reducible refine Me.i_next ?_ | with_reducible refine Me.i_un ?_ | with_reducible refine Me.i_lst ?_ | with_reducible refine Me.i_tup ?_ | with_reducible refine Me.i_dnew (fun _ _ => ?_)
  | with_reducible refine Me.i_rI0 ?_ | ((with_reducible refine Me.i_rI ?_ ?_); (walk_at "side")) | with_reducible refine Me.i_rU ?_ | with_reducible refine Me.i_rEq rfl ?_ | with_reducible refine Me.i_rNe rfl ?_
  | ((with_reducible refine' Me.i_ixl ?h ?e ?q); (case h => walk_at "hp"); (case e => rfl)) | ((with_reducible refine' Me.i_ixt ?h ?e ?q); (case h => walk_at "hp"); (case e => rfl)) | ((with_reducible refine' Me.i_setl ?h ?e ?q); (case h => walk_at "hp"); (case e => rfl))
  | with_reducible refine Me.i_bl ?_
  | with_reducible refine L2.iteT ?_ | with_reducible refine L2.iteF ?_
  | ((with_reducible refine' ⟨_, _, rfl, Or.inl (L2.SqL.of ?h), ?q⟩); (case h => walk_at "hp"))
  | ((with_reducible refine' ⟨_, _, rfl, Or.inr (L2.SqT.of ?h), ?q⟩); (case h => walk_at "hp"))
  | ((with_reducible refine' Me.i_isi ?t ?e ?q); (case t => walk_at "ty"); (case e => walk_at "kb"))
  | (with_reducible refine Or.inl ⟨_, rfl, ?_⟩)
  | ((with_reducible refine And.intro (a := List.length _ ≤ PySem.sizeLine) ?s (fun _ _ => ?q)); (case s => (simp only [List.length_cons, List.length_nil]; decide))))
local macro_rules | `(tactic| walk_at "ty") => `(tactic| first | exact L2.TyX.base L2.TyOf.non | exact L2.TyX.base (L2.TyOf.bl _) | exact L2.TyX.base (L2.TyOf.int _) | exact L2.TyX.base (L2.TyOf.str _) | ((refine' L2.TyX.base (L2.TyOf.tup ?h)); (case h => walk_at "hp")) | ((refine' L2.TyX.base (L2.TyOf.lst ?h)); (case h => walk_at "hp")) | ((refine' L2.TyX.base (L2.TyOf.dK ?h)); (case h => walk_at "hp")))
local macro_rules | `(tactic| walk_at "go") => `(tactic| repeat (walk_at "go1"))
set_option maxHeartbeats 8000000
namespace Me
open PySem L2


structure Ad where
  C : Nat → Addr
  I : Nat → DA
  E : Nat → DA
  bad : Addr
  badI : DA
  is_int : DA
  is_int_within : DA
  is_name : DA
  is_bits : DA
  is_word : DA
  is_simple : DA
  check_word_and_name : DA
  are_ways : DA
  are_parts : DA
  have_unlike_names : DA
  are_apart : DA
  _law_is_int : DA
  _law_same_dict : DA
  _law_same : DA
  _law_start : DA
  _law_pull : DA
  _law_odd : DA
  _law_word : DA
  _law_is_name : DA
  _law_object : DA
  _law_bits_or_not : DA
  _law_is_word : DA
  _law_object_of : DA
  _law_make : DA
  _law_told : DA
  _law_due : DA
  _law_thing : DA
  law : DA
structure Txt (K : PySem.W.Frag) (mg : Str → Option Value) (a : Ad) : Prop where
  kc : ∀ i, i < 11 → Kc K mg a.C a.E i
  bad : BadT K mg a.bad a.badI
  ini0 : PySem.W.findIn K (.ref (a.C 0)) "__init__" = some (some (.builtin "object.__init__"))
  isinstance : mg "isinstance" = none
  int : mg "int" = none
  bool : mg "bool" = none
  str : mg "str" = none
  dict : mg "dict" = none
  list : mg "list" = none
  tuple : mg "tuple" = none
  len : mg "len" = none
  range : mg "range" = none
  all : mg "all" = none
  any : mg "any" = none
  enumerate : mg "enumerate" = none
  is_int : Df K mg "is_int" (top 1) ["thing"] a.is_int
  is_int_within : Df K mg "is_int_within" (top 2) ["thing", "least", "most"] a.is_int_within
  is_name : Df K mg "is_name" (top 3) ["thing"] a.is_name
  is_bits : Df K mg "is_bits" (top 4) ["thing"] a.is_bits
  is_word : Df K mg "is_word" (top 5) ["thing"] a.is_word
  is_simple : Df K mg "is_simple" (top 15) ["thing"] a.is_simple
  check_word_and_name : Df K mg "check_word_and_name" (top 22) ["word", "name"] a.check_word_and_name
  are_ways : Df K mg "are_ways" (top 23) ["thing"] a.are_ways
  are_parts : Df K mg "are_parts" (top 24) ["thing"] a.are_parts
  have_unlike_names : Df K mg "have_unlike_names" (top 25) ["things"] a.have_unlike_names
  are_apart : Df K mg "are_apart" (top 26) ["words"] a.are_apart
  _law_is_int : Df K mg "_law_is_int" (top 28) ["_law_told_here"] a._law_is_int
  _law_same_dict : Df K mg "_law_same_dict" (top 29) ["_law_told_here", "_law_due_here"] a._law_same_dict
  _law_same : Df K mg "_law_same" (top 30) ["_law_told_here", "_law_due_here"] a._law_same
  _law_start : Df K mg "_law_start" (top 31) ["_law_script"] a._law_start
  _law_pull : Df K mg "_law_pull" (top 32) ["_law_state", "_law_many"] a._law_pull
  _law_odd : Df K mg "_law_odd" (top 33) ["_law_state"] a._law_odd
  _law_word : Df K mg "_law_word" (top 34) ["_law_state"] a._law_word
  _law_is_name : Df K mg "_law_is_name" (top 35) ["_law_thing_here"] a._law_is_name
  _law_object : Df K mg "_law_object" (top 36) ["_law_turn"] a._law_object
  _law_bits_or_not : Df K mg "_law_bits_or_not" (top 37) ["_law_state"] a._law_bits_or_not
  _law_is_word : Df K mg "_law_is_word" (top 38) ["_law_thing_here"] a._law_is_word
  _law_object_of : Df K mg "_law_object_of" (top 39) ["_law_turn", "_law_other"] a._law_object_of
  _law_make : Df K mg "_law_make" (top 40) ["_law_which", "_law_word_here", "_law_name", "_law_content"] a._law_make
  _law_told : Df K mg "_law_told" (top 41) ["_law_which", "_law_word_here", "_law_name", "_law_turn", "_law_other"] a._law_told
  _law_due : Df K mg "_law_due" (top 42) ["_law_which", "_law_word_here", "_law_name", "_law_turn"] a._law_due
  _law_thing : Df K mg "_law_thing" (top 43) ["_law_state"] a._law_thing
  law : Df K mg "law" (top 44) ["_law_script"] a.law
  E0 : FunD K "__eq__" "Nothing.__eq__" (defArgs (inClass (top 10) 0)) (defBody (inClass (top 10) 0)) (defScope (inClass (top 10) 0)) [] [] (a.E 0).f (a.E 0).fd
  Eb0 : Binds K (a.E 0).fd ["self", "other"] []
  I1 : FunD K "__init__" "Number.__init__" (defArgs (inClass (top 11) 0)) (defBody (inClass (top 11) 0)) (defScope (inClass (top 11) 0)) [.non] [] (a.I 1).f (a.I 1).fd
  Ib1 : Binds K (a.I 1).fd ["self", "low", "high", "width"] []
  Id1 : Binds K (a.I 1).fd ["self", "low", "high", "width"] [.none]
  mk1 : Mk K (a.C 1) (a.I 1).f
  E1 : FunD K "__eq__" "Number.__eq__" (defArgs (inClass (top 11) 1)) (defBody (inClass (top 11) 1)) (defScope (inClass (top 11) 1)) [] [] (a.E 1).f (a.E 1).fd
  Eb1 : Binds K (a.E 1).fd ["self", "other"] []
  I2 : FunD K "__init__" "Bits.__init__" (defArgs (inClass (top 12) 0)) (defBody (inClass (top 12) 0)) (defScope (inClass (top 12) 0)) [] [] (a.I 2).f (a.I 2).fd
  Ib2 : Binds K (a.I 2).fd ["self", "many"] []
  mk2 : Mk K (a.C 2) (a.I 2).f
  E2 : FunD K "__eq__" "Bits.__eq__" (defArgs (inClass (top 12) 1)) (defBody (inClass (top 12) 1)) (defScope (inClass (top 12) 1)) [] [] (a.E 2).f (a.E 2).fd
  Eb2 : Binds K (a.E 2).fd ["self", "other"] []
  I3 : FunD K "__init__" "Call.__init__" (defArgs (inClass (top 13) 0)) (defBody (inClass (top 13) 0)) (defScope (inClass (top 13) 0)) [] [] (a.I 3).f (a.I 3).fd
  Ib3 : Binds K (a.I 3).fd ["self", "name"] []
  mk3 : Mk K (a.C 3) (a.I 3).f
  E3 : FunD K "__eq__" "Call.__eq__" (defArgs (inClass (top 13) 1)) (defBody (inClass (top 13) 1)) (defScope (inClass (top 13) 1)) [] [] (a.E 3).f (a.E 3).fd
  Eb3 : Binds K (a.E 3).fd ["self", "other"] []
  I4 : FunD K "__init__" "Items.__init__" (defArgs (inClass (top 14) 0)) (defBody (inClass (top 14) 0)) (defScope (inClass (top 14) 0)) [.non] [] (a.I 4).f (a.I 4).fd
  Ib4 : Binds K (a.I 4).fd ["self", "item", "width"] []
  Id4 : Binds K (a.I 4).fd ["self", "item", "width"] [.none]
  mk4 : Mk K (a.C 4) (a.I 4).f
  E4 : FunD K "__eq__" "Items.__eq__" (defArgs (inClass (top 14) 1)) (defBody (inClass (top 14) 1)) (defScope (inClass (top 14) 1)) [] [] (a.E 4).f (a.E 4).fd
  Eb4 : Binds K (a.E 4).fd ["self", "other"] []
  I5 : FunD K "__init__" "Way.__init__" (defArgs (inClass (top 16) 0)) (defBody (inClass (top 16) 0)) (defScope (inClass (top 16) 0)) [] [] (a.I 5).f (a.I 5).fd
  Ib5 : Binds K (a.I 5).fd ["self", "word", "name", "kind"] []
  mk5 : Mk K (a.C 5) (a.I 5).f
  E5 : FunD K "__eq__" "Way.__eq__" (defArgs (inClass (top 16) 1)) (defBody (inClass (top 16) 1)) (defScope (inClass (top 16) 1)) [] [] (a.E 5).f (a.E 5).fd
  Eb5 : Binds K (a.E 5).fd ["self", "other"] []
  I6 : FunD K "__init__" "Door.__init__" (defArgs (inClass (top 17) 0)) (defBody (inClass (top 17) 0)) (defScope (inClass (top 17) 0)) [] [] (a.I 6).f (a.I 6).fd
  Ib6 : Binds K (a.I 6).fd ["self", "word", "name", "kind"] []
  mk6 : Mk K (a.C 6) (a.I 6).f
  E6 : FunD K "__eq__" "Door.__eq__" (defArgs (inClass (top 17) 1)) (defBody (inClass (top 17) 1)) (defScope (inClass (top 17) 1)) [] [] (a.E 6).f (a.E 6).fd
  Eb6 : Binds K (a.E 6).fd ["self", "other"] []
  I7 : FunD K "__init__" "Part.__init__" (defArgs (inClass (top 18) 0)) (defBody (inClass (top 18) 0)) (defScope (inClass (top 18) 0)) [] [] (a.I 7).f (a.I 7).fd
  Ib7 : Binds K (a.I 7).fd ["self", "name", "kind"] []
  mk7 : Mk K (a.C 7) (a.I 7).f
  E7 : FunD K "__eq__" "Part.__eq__" (defArgs (inClass (top 18) 1)) (defBody (inClass (top 18) 1)) (defScope (inClass (top 18) 1)) [] [] (a.E 7).f (a.E 7).fd
  Eb7 : Binds K (a.E 7).fd ["self", "other"] []
  I8 : FunD K "__init__" "Room.__init__" (defArgs (inClass (top 19) 0)) (defBody (inClass (top 19) 0)) (defScope (inClass (top 19) 0)) [] [] (a.I 8).f (a.I 8).fd
  Ib8 : Binds K (a.I 8).fd ["self", "word", "name", "kind"] []
  mk8 : Mk K (a.C 8) (a.I 8).f
  E8 : FunD K "__eq__" "Room.__eq__" (defArgs (inClass (top 19) 1)) (defBody (inClass (top 19) 1)) (defScope (inClass (top 19) 1)) [] [] (a.E 8).f (a.E 8).fd
  Eb8 : Binds K (a.E 8).fd ["self", "other"] []
  I9 : FunD K "__init__" "Choice.__init__" (defArgs (inClass (top 20) 0)) (defBody (inClass (top 20) 0)) (defScope (inClass (top 20) 0)) [] [] (a.I 9).f (a.I 9).fd
  Ib9 : Binds K (a.I 9).fd ["self", "ways"] []
  mk9 : Mk K (a.C 9) (a.I 9).f
  E9 : FunD K "__eq__" "Choice.__eq__" (defArgs (inClass (top 20) 1)) (defBody (inClass (top 20) 1)) (defScope (inClass (top 20) 1)) [] [] (a.E 9).f (a.E 9).fd
  Eb9 : Binds K (a.E 9).fd ["self", "other"] []
  I10 : FunD K "__init__" "Row.__init__" (defArgs (inClass (top 21) 0)) (defBody (inClass (top 21) 0)) (defScope (inClass (top 21) 0)) [] [] (a.I 10).f (a.I 10).fd
  Ib10 : Binds K (a.I 10).fd ["self", "parts"] []
  mk10 : Mk K (a.C 10) (a.I 10).f
  E10 : FunD K "__eq__" "Row.__eq__" (defArgs (inClass (top 21) 1)) (defBody (inClass (top 21) 1)) (defScope (inClass (top 21) 1)) [] [] (a.E 10).f (a.E 10).fd
  Eb10 : Binds K (a.E 10).fd ["self", "other"] []

/-! ### things -/
inductive Th (H : Hp) : V → Prop where
  | non : Th H .non
  | bl (b : Bool) : Th H (.bl b)
  | int (i : Int) : Th H (.int i)
  | str (x : Str) : Th H (.str x)
  | tup {a : Addr} {xs : List V} (h : H a = some (.tup xs)) : Th H (.ref a)
  | lst {a : Addr} {xs : List V} (h : H a = some (.lst xs)) : Th H (.ref a)
  | dK {a : Addr} {kvs : List (Key × V)} (h : H a = some (.dK kvs)) : Th H (.ref a)
theorem Th.same {H H' : Hp} {v : V} (h : Th H v) (s : Same H H') : Th H' v := by
  cases h with
  | non => exact .non
  | bl b => exact .bl b
  | int i => exact .int i
  | str x => exact .str x
  | tup h => exact .tup (s _ _ h)
  | lst h => exact .lst (s _ _ h)
  | dK h => exact .dK (s _ _ h)
def isI : V → Bool
  | .int _ => true
  | _ => false
def withinV : V → Int → Int → Bool
  | .int i, l, m => decide (l ≤ i) && decide (i ≤ m)
  | _, _, _ => false
theorem i_yes {c : Bool} {A B : Prop} (h : c = true) (q : A) : if c = true then A else B := by rw [if_pos h]; exact q
theorem i_no {c : Bool} {A B : Prop} (h : c = false) (q : B) : if c = true then A else B := by rw [h, if_neg Bool.false_ne_true]; exact q
section
variable {P : Program} {w : World} {K : PySem.W.Frag} {mg : Str → Option Value} {base : Heap} {a : Ad}
def spIsInt : Sp := fun vs H Q _ => ∃ x, vs = [x] ∧ Th H x ∧ Q (.bl (isI x)) H
theorem ok_is_int (T : Txt K mg a) : FnOk P w K mg base CX0 1 a.is_int.f a.is_int.fd ["thing"] spIsInt := by
  have sc : FnScope ["thing"] ["thing"] (defScope (top 1)) := ⟨rfl, rfl, rfl, by decide +kernel, rfl, by decide +kernel, by decide +kernel⟩
  refine T.is_int.ok sc (fun vs H Q E h => ?_) (fun cdv A outer s H vs Q E hr h => ?_)
  · obtain ⟨x, rfl, _⟩ := h; rfl
  · obtain ⟨x, rfl, hx, k⟩ := h
    refine ⟨_, (pss_one (ps_ret (pe_and (pe_callB call_isi (by rfl) T.isinstance (by decide +kernel) (pa_cons (pv 0) (pa_cons (pe_bltn (v := .ty "int") (by rfl) T.int (by decide +kernel) rfl) pa_nil))) (pe_one (pe_not (pe_callB call_isi (by rfl) T.isinstance (by decide +kernel) (pa_cons (pv 0) (pa_cons (pe_bltn (v := .ty "bool") (by rfl) T.bool (by decide +kernel) rfl) pa_nil)))))))), ?_⟩
    cases hx <;> (walk_at "go"; exact k)
theorem ok_law_is_int (T : Txt K mg a) : FnOk P w K mg base CX0 1 a._law_is_int.f a._law_is_int.fd ["_law_told_here"] spIsInt := by
  have sc : FnScope ["_law_told_here"] ["_law_told_here"] (defScope (top 28)) := ⟨rfl, rfl, rfl, by decide +kernel, rfl, by decide +kernel, by decide +kernel⟩
  refine T._law_is_int.ok sc (fun vs H Q E h => ?_) (fun cdv A outer s H vs Q E hr h => ?_)
  · obtain ⟨x, rfl, _⟩ := h; rfl
  · obtain ⟨x, rfl, hx, k⟩ := h
    refine ⟨_, (pss_one (ps_ret (pe_and (pe_callB call_isi (by rfl) T.isinstance (by decide +kernel) (pa_cons (pv 0) (pa_cons (pe_bltn (v := .ty "int") (by rfl) T.int (by decide +kernel) rfl) pa_nil))) (pe_one (pe_not (pe_callB call_isi (by rfl) T.isinstance (by decide +kernel) (pa_cons (pv 0) (pa_cons (pe_bltn (v := .ty "bool") (by rfl) T.bool (by decide +kernel) rfl) pa_nil)))))))), ?_⟩
    cases hx <;> (walk_at "go"; exact k)
def spWithin : Sp := fun vs H Q _ => ∃ (x : V) (l m : Int), vs = [x, .int l, .int m] ∧ Th H x ∧ Q (.bl (withinV x l m)) H
theorem ok_within (T : Txt K mg a) : FnOk P w K mg base CX0 2 a.is_int_within.f a.is_int_within.fd ["thing", "least", "most"] spWithin := by
  have G_is_int : FnOk P w K mg base CX0 1 a.is_int.f a.is_int.fd ["thing"] spIsInt := ok_is_int T
  have sc : FnScope ["thing", "least", "most"] ["thing", "least", "most"] (defScope (top 2)) := ⟨rfl, rfl, rfl, by decide +kernel, rfl, by decide +kernel, by decide +kernel⟩
  refine T.is_int_within.ok sc (fun vs H Q E h => ?_) (fun cdv A outer s H vs Q E hr h => ?_)
  · obtain ⟨x, l, m, rfl, _⟩ := h; rfl
  · obtain ⟨x, l, m, rfl, hx, k⟩ := h
    refine ⟨_, (pss_one (ps_ret (pe_and (pe_call G_is_int (hr.mono (by first | decide | omega)) rfl T.is_int.mg T.is_int.kp T.is_int.b .nil pass0 (pa_cons (pv 0) pa_nil)) (pe_one (pe_chain op_le op_le (pv 1) (pv 0) (pv 2)))))), ?_⟩
    walk_at "go"
    refine ⟨x, rfl, hx, _, rfl, ?_⟩
    cases hx with
    | int i =>
      refine i_yes rfl ⟨_, rfl, _, rfl, _, _, rfl, rfl, _, rfl, ?_⟩
      refine i_itd (fun h1 => ?_) (fun h1 => ?_)
      · refine ⟨_, rfl, _, _, rfl, rfl, ?_⟩
        have e : withinV (.int i) l m = decide (i ≤ m) := by
          show (decide (l ≤ i) && decide (i ≤ m)) = _
          rw [decide_eq_true h1]; rfl
        rw [e] at k
        exact k
      · have e : withinV (.int i) l m = false := by
          show (decide (l ≤ i) && decide (i ≤ m)) = _
          rw [decide_eq_false h1]; rfl
        rw [e] at k
        exact k
    | _ => exact i_no rfl k
end
end Me
set_option maxHeartbeats 8000000
namespace Me
open PySem L2


/-- a comprehension over the signs of a text -/
theorem lc_its {x : Str} {g : TG} {tt : TT} {te : TE} {vs : List Nat} {σ : L2.St} {H1 : Hp} {D : Addr} {Qd : Hp → Prop} (Pv : Nat → Hp → Prop) (h0 : Pv 0 (upd H1 D (.lst [])))
    (hs : ∀ i c H, x.cps[i]? = some c → Pv i H → g (.str ⟨#[c]⟩) (wipe σ vs) H fun σ2 H2 => wipe σ2 vs = wipe σ vs ∧ tt σ2 H2 fun b H3 =>
      if b = true then te σ2 H3 fun y H4 => ∃ acc, H4 D = some (.lst acc) ∧ acc.length < sizeLine ∧ Pv (i + 1) (upd H4 D (.lst (acc ++ [y]))) else Pv (i + 1) H3) (hd : ∀ H, Pv x.cps.size H → Qd H) :
    ∃ W : Nat → Nat → Hp → Prop, (∃ m, W 0 m (upd H1 D (.lst []))) ∧ ∀ i m H, W i m H →
      ((Its x).stop i H ∧ Qd H) ∨ ((Its x).go i H ∧ ∃ Nx : Hp → Prop, (∀ H', Nx H' → ∃ m', m' < m ∧ W (i + 1) m' H') ∧ ∀ v H', (Its x).yld i H v H' → g v (wipe σ vs) H' fun σ2 H2 => wipe σ2 vs = wipe σ vs ∧ tt σ2 H2 fun b H3 =>
        if b = true then te σ2 H3 fun y H4 => ∃ acc, H4 D = some (.lst acc) ∧ acc.length < sizeLine ∧ Nx (upd H4 D (.lst (acc ++ [y]))) else Nx H3) := by
  refine ⟨fun i m H => m = x.cps.size - i ∧ i ≤ x.cps.size ∧ Pv i H, ⟨x.cps.size, by simp, Nat.zero_le _, h0⟩, ?_⟩
  rintro i m H ⟨rfl, hi, p⟩
  by_cases lt : i < x.cps.size
  · refine .inr ⟨lt, Pv (i + 1), fun H' p' => ⟨x.cps.size - (i + 1), by omega, rfl, lt, p'⟩, fun v H' y => ?_⟩
    obtain ⟨rfl, c, hc, rfl⟩ := y
    exact hs i c _ hc p
  · have e : i = x.cps.size := by omega
    subst e
    exact .inl ⟨Nat.le_refl _, hd H p⟩
def letterB (c : Nat) : Bool := decide (97 ≤ c) && decide (c ≤ 122)
def nameS (z : Str) : Bool := (decide (1 ≤ z.length) && decide (z.length ≤ 8)) && z.cps.toList.all letterB
def nameV : V → Bool
  | .str z => nameS z
  | _ => false
theorem le_a (c : Nat) : (!decide (([c] : List Nat) < [97])) = decide (97 ≤ c) := by
  by_cases h : 97 ≤ c
  · have n : ¬ ([c] : List Nat) < [97] := by simp [List.cons_lt_cons_iff]; omega
    rw [decide_eq_true h, decide_eq_false n]; rfl
  · have n : ([c] : List Nat) < [97] := by simp [List.cons_lt_cons_iff]; omega
    rw [decide_eq_false h, decide_eq_true n]; rfl
theorem le_z (c : Nat) : (!decide (([122] : List Nat) < [c])) = decide (c ≤ 122) := by
  by_cases h : c ≤ 122
  · have n : ¬ ([122] : List Nat) < [c] := by simp [List.cons_lt_cons_iff]; omega
    rw [decide_eq_true h, decide_eq_false n]; rfl
  · have n : ([122] : List Nat) < [c] := by simp [List.cons_lt_cons_iff]; omega
    rw [decide_eq_false h, decide_eq_true n]; rfl
theorem take_cps {z : Str} {i c : Nat} (h : z.cps[i]? = some c) : z.cps.toList.take (i + 1) = z.cps.toList.take i ++ [c] := by
  have h2 : z.cps.toList[i]? = some c := by rw [Array.getElem?_toList]; exact h
  obtain ⟨lt, e⟩ := List.getElem?_eq_some_iff.mp h2
  rw [← e]
  exact (List.take_append_getElem lt).symm
theorem same_new {H H' : Hp} {p : Addr} {o : HO} (h : Same H H') (n : H' p = none) : Same H (upd H' p o) := fun b u e => by
  have e1 := h b u e
  rw [upd_ne (ne_of_none e1 n)]; exact e1
def lets (z : Str) (i : Nat) : List V := (z.cps.toList.take i).map fun c => V.bl (letterB c)
theorem lets_step {H : Hp} {D : Addr} {z : Str} {i c : Nat} {b : Bool} (hz : z.length ≤ 100) (hc : z.cps[i]? = some c) (hb : b = letterB c) :
    ∃ acc, upd H D (.lst (lets z i)) D = some (.lst acc) ∧ acc.length < sizeLine ∧ upd (upd H D (.lst (lets z i))) D (.lst (acc ++ [V.bl b])) = upd H D (.lst (lets z (i + 1))) := by
  refine ⟨lets z i, upd_same, ?_, ?_⟩
  · have e : (lets z i).length ≤ z.length := by
      show ((z.cps.toList.take i).map _).length ≤ z.cps.size
      rw [List.length_map, List.length_take, Array.length_toList]
      omega
    exact Nat.lt_of_le_of_lt (Nat.le_trans e hz) (by decide)
  · rw [upd_upd]
    have e : lets z (i + 1) = lets z i ++ [V.bl (letterB c)] := by
      show (z.cps.toList.take (i + 1)).map _ = _
      rw [take_cps hc, List.map_append]; rfl
    rw [e, hb]
theorem lets_all {z : Str} : (lets z z.cps.size) = (z.cps.toList.map letterB).map V.bl := by
  show (z.cps.toList.take _).map _ = _
  rw [List.take_of_length_le (by rw [Array.length_toList]; exact Nat.le_refl _), List.map_map]; rfl
section
variable {P : Program} {w : World} {K : PySem.W.Frag} {mg : Str → Option Value} {base : Heap} {a : Ad}
def spIsName (hp : Prop) : Sp := fun vs H Q _ => ∃ x, vs = [x] ∧ Th H x ∧ (∀ z, x = .str z → z.length ≤ 100) ∧ ∀ H', Same H H' → Q (.bl (nameV x)) H'
theorem ok_is_name (T : Txt K mg a) : FnOk P w K mg base CX0 1 a.is_name.f a.is_name.fd ["thing"] (spIsName True) := by
  have sc : FnScope ["thing", "letter"] ["thing"] (defScope (top 3)) := ⟨rfl, rfl, rfl, by decide +kernel, rfl, by decide +kernel, by decide +kernel⟩
  refine T.is_name.ok sc (fun vs H Q E h => ?_) (fun cdv A outer s H vs Q E hr h => ?_)
  · obtain ⟨x, rfl, _⟩ := h; rfl
  · obtain ⟨x, rfl, hx, hz, k⟩ := h
    refine ⟨_, (pss_cons (ps_if (PW.pt (pw_or (pt_not (pt_val (pe_callB call_isi (by rfl) T.isinstance (by decide +kernel) (pa_cons (pv 0) (pa_cons (pe_bltn (v := .ty "str") (by rfl) T.str (by decide +kernel) rfl) pa_nil))))) (pw_or1 (pt_not (pt_chain op_le op_le pe_int (pe_callB call_len_str (by rfl) T.len PySem.boot_len (pa_cons (pv 0) pa_nil)) pe_int)))))
      (pss_one (ps_ret pe_bl))
      pss_nil)
      (pss_one (ps_ret (pe_callB (cr_all rfl) (by rfl) T.all (by decide +kernel) (pa_cons (pe_lc (own := [("letter", 1)]) (g := gName 1) (by rfl) sc.nd (pi_str (pv 0)) (blkOk_by (own := [("letter", 1)]) (N := ["thing", "letter"]) (sc := defScope (top 3)) (by decide +kernel)) (fun _ _ _ _ _ => pg_name (i := 1) sc.nd rfl (Or.inl rfl)) (fun _ _ _ _ _ => pts_nil) (fun _ _ _ _ _ => (by exact (pe_chain op_le_str op_le_str pe_str (pv 1) pe_str)))) pa_nil))))), ?_⟩
    have k0 := k H fun _ _ e => e
    cases hx with
    | str z =>
      have hz := hz z rfl
      walk_at "go"
      refine i_no rfl ?_
      walk_at "go"
      refine ⟨_, rfl, z, rfl, Nat.le_trans hz (by decide), _, _, rfl, rfl, _, rfl, ?_⟩
      have bad : (¬ ((1:Int) ≤ (z.length : Int)) ∨ ¬ ((z.length : Int) ≤ 8)) → nameV (.str z) = false := fun h => by
        show ((decide (1 ≤ z.length) && decide (z.length ≤ 8)) && _) = false
        rcases h with h | h
        · rw [decide_eq_false (by omega)]; rfl
        · rw [decide_eq_false (p := z.length ≤ 8) (by omega), Bool.and_false]; rfl
      refine i_itd (fun h1 => ?_) (fun h1 => ?_)
      · refine ⟨_, _, rfl, rfl, _, rfl, ?_⟩
        refine i_itn (fun h2 => ?_) (fun h2 => ?_)
        · rw [bad (.inr h2)] at k0; walk_at "go"; exact k0
        · walk_at "go"
          refine ⟨_, rfl, z, rfl, fun D nD => ?_⟩
          refine lc_its (Qd := fun H' => ∃ (a : Addr) (bs : List Bool), [V.ref D] = [V.ref a] ∧ SqL K H' a (bs.map V.bl) ∧ Q (.bl (bs.all id)) H') (fun i H' => H' = upd H D (.lst (lets z i))) rfl (fun i c H1 hc e => ?_) (fun H1 e => ?_)
          · subst e
            refine ⟨rfl, ?_⟩
            unfold tYes
            with_reducible refine L2.iteT ?_
            refine ⟨_, rfl, _, _, rfl, rfl, _, rfl, ?_⟩
            refine i_itb (fun h1 => ?_) (fun h1 => ?_)
            · have h1 : decide (97 ≤ c) = true := (le_a c).symm.trans h1
              refine ⟨_, _, rfl, rfl, lets_step hz hc ?_⟩
              refine Eq.trans (le_z c) ?_
              unfold letterB
              rw [h1]; rfl
            · have h1 : decide (97 ≤ c) = false := (le_a c).symm.trans h1
              refine lets_step hz hc ?_
              unfold letterB
              rw [h1]; rfl
          · subst e
            refine ⟨D, z.cps.toList.map letterB, rfl, SqL.of (by rw [upd_same, lets_all]), ?_⟩
            have e : nameV (.str z) = (z.cps.toList.map letterB).all id := by
              show ((decide (1 ≤ z.length) && decide (z.length ≤ 8)) && z.cps.toList.all letterB) = _
              rw [decide_eq_true (by omega), decide_eq_true (p := z.length ≤ 8) (by omega), List.all_map]; rfl
            rw [← e]
            exact k _ (same_new (fun _ _ e => e) nD)
      · rw [bad (.inl h1)] at k0
        refine ⟨_, rfl, i_yes rfl ?_⟩
        walk_at "go"; exact k0
    | _ => (walk_at "go"; refine i_yes rfl ?_; walk_at "go"; exact k0)
theorem alpha (c : Nat) : (!decide (c ∈ (Str.ofString "abcdefghijklmnopqrstuvwxyz").cps.toList)) = !letterB c := by
  have e : (Str.ofString "abcdefghijklmnopqrstuvwxyz").cps.toList = List.range' 97 26 := by decide +kernel
  rw [e]
  congr 1
  unfold letterB
  rw [← Bool.decide_and]
  congr 1
  rw [List.mem_range'_1]
  apply propext
  omega
def nlets (z : Str) (i : Nat) : List V := ((z.cps.toList.take i).filter fun c => !letterB c).map fun c => V.str ⟨#[c]⟩
theorem nlets_step {H : Hp} {D : Addr} {z : Str} {i c : Nat} (hz : z.length ≤ 100) (hc : z.cps[i]? = some c) (hb : letterB c = false) :
    ∃ acc, upd H D (.lst (nlets z i)) D = some (.lst acc) ∧ acc.length < sizeLine ∧ upd (upd H D (.lst (nlets z i))) D (.lst (acc ++ [V.str ⟨#[c]⟩])) = upd H D (.lst (nlets z (i + 1))) := by
  refine ⟨nlets z i, upd_same, ?_, ?_⟩
  · have e : (nlets z i).length ≤ z.length := by
      show (((z.cps.toList.take i).filter _).map _).length ≤ z.cps.size
      rw [List.length_map]
      refine Nat.le_trans (List.length_filter_le _ _) ?_
      rw [List.length_take, Array.length_toList]
      omega
    exact Nat.lt_of_le_of_lt (Nat.le_trans e hz) (by decide)
  · rw [upd_upd]
    have e : nlets z (i + 1) = nlets z i ++ [V.str ⟨#[c]⟩] := by
      show ((z.cps.toList.take (i + 1)).filter _).map _ = _
      rw [take_cps hc, List.filter_append, List.map_append, List.filter_cons_of_pos (by rw [hb]; rfl)]; rfl
    rw [e]
theorem nlets_skip {H : Hp} {D : Addr} {z : Str} {i c : Nat} (hc : z.cps[i]? = some c) (hb : letterB c = true) : upd H D (.lst (nlets z i)) = upd H D (.lst (nlets z (i + 1))) := by
  have e : nlets z (i + 1) = nlets z i := by
    show ((z.cps.toList.take (i + 1)).filter _).map _ = _
    rw [take_cps hc, List.filter_append, List.map_append, List.filter_cons_of_neg (by rw [hb]; simp)]
    exact List.append_nil _
  rw [e]
theorem nlets_all {z : Str} : decide (V.int ((nlets z z.cps.size).length : Int) = V.int 0) = z.cps.toList.all letterB := by
  have e : nlets z z.cps.size = (z.cps.toList.filter fun c => !letterB c).map fun c => V.str ⟨#[c]⟩ := by
    show ((z.cps.toList.take _).filter _).map _ = _
    rw [List.take_of_length_le (by rw [Array.length_toList]; exact Nat.le_refl _)]
  rw [e, List.length_map]
  by_cases h : z.cps.toList.all letterB = true
  · rw [h, List.filter_eq_nil_iff.mpr (fun c m => by rw [List.all_eq_true.mp h c m]; simp)]
    exact decide_eq_true rfl
  · rw [Bool.eq_false_iff.mpr h]
    refine decide_eq_false fun q => h ?_
    have q := V.int.inj q
    have q : (z.cps.toList.filter fun c => !letterB c).length = 0 := by omega
    have q := List.filter_eq_nil_iff.mp (List.length_eq_zero_iff.mp q)
    refine List.all_eq_true.mpr fun c m => ?_
    have := q c m
    revert this
    cases letterB c <;> simp
theorem ok_law_is_name (T : Txt K mg a) : FnOk P w K mg base CX0 1 a._law_is_name.f a._law_is_name.fd ["_law_thing_here"] (spIsName True) := by
  have sc : FnScope ["_law_thing_here", "_law_letter"] ["_law_thing_here"] (defScope (top 35)) := ⟨rfl, rfl, rfl, by decide +kernel, rfl, by decide +kernel, by decide +kernel⟩
  refine T._law_is_name.ok sc (fun vs H Q E h => ?_) (fun cdv A outer s H vs Q E hr h => ?_)
  · obtain ⟨x, rfl, _⟩ := h; rfl
  · obtain ⟨x, rfl, hx, hz, k⟩ := h
    refine ⟨_, (pss_cons (ps_if (PW.pt (pw_or (pt_not (pt_val (pe_callB call_isi (by rfl) T.isinstance (by decide +kernel) (pa_cons (pv 0) (pa_cons (pe_bltn (v := .ty "str") (by rfl) T.str (by decide +kernel) rfl) pa_nil))))) (pw_or (pt_cmpR op_lt (pe_callB call_len_str (by rfl) T.len PySem.boot_len (pa_cons (pv 0) pa_nil)) pe_int (nomark _)) (pw_or1 (pt_cmpR op_gt (pe_callB call_len_str (by rfl) T.len PySem.boot_len (pa_cons (pv 0) pa_nil)) pe_int (nomark _))))))
      (pss_one (ps_ret pe_bl))
      pss_nil)
      (pss_one (ps_ret (pe_cmpR op_eq (pe_callB call_len_seq (by rfl) T.len PySem.boot_len (pa_cons (pe_lc (own := [("_law_letter", 1)]) (g := gName 1) (by rfl) sc.nd (pi_str (pv 0)) (blkOk_by (own := [("_law_letter", 1)]) (N := ["_law_thing_here", "_law_letter"]) (sc := defScope (top 35)) (by decide +kernel)) (fun _ _ _ _ _ => pg_name (i := 1) sc.nd rfl (Or.inl rfl)) (fun _ _ _ _ _ => (pts_one (pt_cmpR op_notIn_sign (pv 1) pe_str (by rfl)))) (fun _ _ _ _ _ => (by exact (pv 1)))) pa_nil)) pe_int (nomark _))))), ?_⟩
    have k0 := k H fun _ _ e => e
    cases hx with
    | str z =>
      have hz := hz z rfl
      walk_at "go"
      refine i_no rfl ?_
      walk_at "go"
      refine ⟨z, rfl, Nat.le_trans hz (by decide), ?_⟩
      have bad : (¬ ((1:Int) ≤ (z.length : Int)) ∨ ¬ ((z.length : Int) ≤ 8)) → nameV (.str z) = false := fun h => by
        show ((decide (1 ≤ z.length) && decide (z.length ≤ 8)) && _) = false
        rcases h with h | h
        · rw [decide_eq_false (by omega)]; rfl
        · rw [decide_eq_false (p := z.length ≤ 8) (by omega), Bool.and_false]; rfl
      walk_at "go"
      refine i_itd (fun h1 => ?_) (fun h1 => ?_)
      · rw [bad (.inl (by omega))] at k0; walk_at "go"; exact k0
      · walk_at "go"
        refine ⟨z, rfl, Nat.le_trans hz (by decide), ?_⟩
        walk_at "go"
        refine i_itd (fun h2 => ?_) (fun h2 => ?_)
        · rw [bad (.inr (by omega))] at k0; walk_at "go"; exact k0
        · walk_at "go"
          refine ⟨_, rfl, z, rfl, fun D nD => ?_⟩
          refine lc_its (Qd := fun H' => ∃ (p : Addr) (ys : List V), [V.ref D] = [V.ref p] ∧ (SqL K H' p ys ∨ SqT K H' p ys) ∧ rEq (V.int (ys.length : Int)) (V.int 0) H' Q) (fun i H' => H' = upd H D (.lst (nlets z i))) rfl (fun i c H1 hc e => ?_) (fun H1 e => ?_)
          · subst e
            refine ⟨rfl, ?_⟩
            walk_at "go"
            refine ⟨c, _, rfl, rfl, _, rfl, ?_⟩
            refine i_itb (fun h1 => ?_) (fun h1 => ?_)
            · have h1 : letterB c = false := by have := (alpha c).symm.trans h1; revert this; cases letterB c <;> simp
              exact ⟨_, rfl, nlets_step hz hc h1⟩
            · have h1 : letterB c = true := by have := (alpha c).symm.trans h1; revert this; cases letterB c <;> simp
              exact nlets_skip hc h1
          · subst e
            refine ⟨D, nlets z z.cps.size, rfl, .inl (SqL.of upd_same), rfl, ?_⟩
            rw [nlets_all]
            have e : nameV (.str z) = z.cps.toList.all letterB := by
              show ((decide (1 ≤ z.length) && decide (z.length ≤ 8)) && z.cps.toList.all letterB) = _
              rw [decide_eq_true (by omega), decide_eq_true (p := z.length ≤ 8) (by omega)]; rfl
            rw [← e]
            exact k _ (same_new (fun _ _ e => e) nD)
    | _ => (walk_at "go"; refine i_yes rfl ?_; walk_at "go"; exact k0)
end
end Me
set_option maxHeartbeats 8000000
namespace Me
open PySem L2
theorem at_ints {ns : List Int} {i : Int} (h0 : 0 ≤ i) (h1 : i < ((ns.map V.int).length : Int)) : ∃ z, atI (ns.map V.int) i = some (V.int z) := by
  obtain ⟨j, rfl⟩ := Int.eq_ofNat_of_zero_le h0
  have hj : j < ns.length := by rw [List.length_map] at h1; omega
  exact ⟨ns[j], atI_nat (by rw [List.getElem?_map, List.getElem?_eq_getElem hj]; rfl)⟩
theorem st_upd {H : Hp} {p L : Addr} {ns : List Int} {i b c : Int} {o : HO} (e : o = .lst [.ref L, .int i, .int b, .int c]) (n : L ≠ p) (hL : H L = some (.lst (ns.map V.int))) (hn : ns.length ≤ 63) (hi : 0 ≤ i) (hb : 0 ≤ b) (hc : 0 ≤ c) (hd : c < 2147483647) : StAt (upd H p o) p L :=
  ⟨ns, i, b, c, by rw [upd_same, e], by rw [upd_ne n]; exact hL, hn, hi, hb, hc, hd⟩
theorem fm {x m : Int} (h : 0 < m) : 0 ≤ x.fmod m ∧ x.fmod m < m := by
  rw [Int.fmod_eq_emod_of_nonneg _ (by omega)]
  exact ⟨Int.emod_nonneg _ (by omega), Int.emod_lt_of_pos _ h⟩
theorem fd {x m : Int} (hx : 0 ≤ x) (h : 0 < m) : 0 ≤ x.fdiv m := by
  rw [Int.fdiv_eq_ediv_of_nonneg _ (by omega)]
  exact Int.ediv_nonneg hx (by omega)
theorem Went.rfl' {p : Addr} {H : Hp} (h : StOk H p) : Went p H H := ⟨h, fun _ _ _ e => e, fun _ e => e⟩
theorem StAt.keep {p L : Addr} {H H' : Hp} (h : StAt H p L) (k : Same H H') : StAt H' p L := by
  obtain ⟨ns, i, b, c, h1, h2, h3⟩ := h
  exact ⟨ns, i, b, c, k _ _ h1, k _ _ h2, h3⟩
theorem StOk.keep {p : Addr} {H H' : Hp} (h : StOk H p) (k : Same H H') : StOk H' p := h.imp fun _ q => q.keep k
theorem Went.new {p q : Addr} {H H' : Hp} {o : HO} (w : Went p H H') (n : H' q = none) : Went p H (upd H' q o) := by
  have k : Same H' (upd H' q o) := fun b u e => by rw [upd_ne (ne_of_none e n)]; exact e
  exact ⟨w.1.keep k, fun a u ne e => k _ _ (w.2.1 a u ne e), fun L e => (w.2.2 L e).keep k⟩
/-- an object that was not there at first is written -/
theorem Went.wr {p q : Addr} {H H' : Hp} {o : HO} (S : StOk H p) (w : Went p H H') (n : H q = none) (nq : q ≠ p) : Went p H (upd H' q o) := by
  obtain ⟨L, hL⟩ := S
  have h' := w.2.2 L hL
  have nL : L ≠ q := by obtain ⟨_, _, _, _, _, e, _⟩ := hL; exact ne_of_none e n
  refine went_mk hL ?_ fun a u ne e => by rw [upd_ne (ne_of_none e n)]; exact w.2.1 a u ne e
  obtain ⟨ns, i, b, c, h1, h2, h3⟩ := h'
  exact ⟨ns, i, b, c, by rw [upd_ne nq.symm]; exact h1, by rw [upd_ne nL]; exact h2, h3⟩
theorem StOk.ne {H : Hp} {p q : Addr} (S : StOk H p) (n : H q = none) : q ≠ p := by
  obtain ⟨L, _, _, _, _, e, _⟩ := S
  exact fun z => by rw [z, e] at n; cases n
theorem Went.none {p q : Addr} {H H' : Hp} (w : Went p H H') (n : H' q = none) (nq : q ≠ p) : H q = none := by
  cases e : H q with
  | none => rfl
  | some o => rw [w.2.1 q o nq e] at n; cases n
theorem at_mem {xs : List V} {i : Int} (h0 : 0 ≤ i) (h1 : i < (xs.length : Int)) : ∃ v, atI xs i = some v ∧ v ∈ xs := by
  obtain ⟨j, rfl⟩ := Int.eq_ofNat_of_zero_le h0
  have hj : j < xs.length := by omega
  exact ⟨xs[j], atI_nat (List.getElem?_eq_getElem hj), List.getElem_mem hj⟩


section
variable {P : Program} {w : World} {K : PySem.W.Frag} {mg : Str → Option Value} {base : Heap} {a : Ad}
def spPull : Sp := fun vs H Q _ => ∃ (p : Addr) (m : Int), vs = [.ref p, .int m] ∧ StOk H p ∧ 0 < m ∧ m < 1073741824 ∧ ∀ (r : Int) (H' : Hp), 0 ≤ r → r < m → Went p H H' → Q (.int r) H'
theorem ok_pull (T : Txt K mg a) : FnOk P w K mg base CX0 1 a._law_pull.f a._law_pull.fd ["_law_state", "_law_many"] spPull := by
  have sc : FnScope ["_law_state", "_law_many", "_law_cell", "_law_number"] ["_law_state", "_law_many"] (defScope (top 32)) := ⟨rfl, rfl, rfl, by decide +kernel, rfl, by decide +kernel, by decide +kernel⟩
  refine T._law_pull.ok sc (fun vs H Q E h => ?_) (fun cdv A outer s H vs Q E hr h => ?_)
  · obtain ⟨p, m, rfl, _⟩ := h
    rfl
  · obtain ⟨p, m, rfl, S, hm0, hm1, k⟩ := h
    have S0 := S
    obtain ⟨L, SL⟩ := S
    obtain ⟨ns, i, b, c, hp, hL, hn, hi, hb, hc0, hc1⟩ := id SL
    refine ⟨_, (pss_cons (ps_if (PW.pt (pw_and (pt_cmpR op_eq (pe_ix ix_list (pv 0) pe_int (fun _ _ => rfl)) pe_int (nomark _)) (pw_and1 (pt_cmpR op_lt (pe_ix ix_list (pv 0) pe_int (fun _ _ => rfl)) (pe_callB call_len_seq (by rfl) T.len PySem.boot_len (pa_cons (pe_ix ix_list (pv 0) pe_int (fun _ _ => rfl)) pa_nil)) (nomark _)))))
      (pss_cons (ps_set (i := 2) sc.nd rfl (by first | exact Or.inl rfl | exact Or.inr rfl) (pe_ix ix_list (pe_ix ix_list (pv 0) pe_int (fun _ _ => rfl)) (pe_ix ix_list (pv 0) pe_int (fun _ _ => rfl)) (fun _ _ => rfl)))
      (pss_cons (ps_asg (pe_op op_add (pe_ix ix_list (pv 0) pe_int (fun _ _ => rfl)) pe_int) (pg_sub (pv 0) pe_int set_list))
      (pss_one (ps_if (pt_cmpR op_ge (pv 2) (pe_op op_pow pe_int pe_int) (nomark _))
      (pss_one (ps_asg (pv 2) (pg_sub (pv 0) pe_int set_list)))
      (pss_one (ps_asg (pe_op op_mod (pe_callTy call_int1 (by rfl) T.int (by decide +kernel) (pa_cons (pe_op op_add (pe_op op_add (pe_op op_mul (pe_ix ix_list (pv 0) pe_int (fun _ _ => rfl)) pe_int) (pe_op op_mod (pe_callTy call_int1 (by rfl) T.int (by decide +kernel) (pa_cons (pv 2) pa_nil)) pe_int)) pe_int) pa_nil)) pe_int) (pg_sub (pv 0) pe_int set_list)))))))
      pss_nil)
      (pss_cons (ps_if (pt_cmpR op_gt (pe_ix ix_list (pv 0) pe_int (fun _ _ => rfl)) pe_int (nomark _))
      (pss_cons (ps_set (i := 3) sc.nd rfl (by first | exact Or.inl rfl | exact Or.inr rfl) (pe_op op_modN (pe_callTy call_int1 (by rfl) T.int (by decide +kernel) (pa_cons (pe_ix ix_list (pv 0) pe_int (fun _ _ => rfl)) pa_nil)) (pv 1)))
      (pss_cons (ps_asg (pe_op op_fdivN (pe_ix ix_list (pv 0) pe_int (fun _ _ => rfl)) (pv 1)) (pg_sub (pv 0) pe_int set_list))
      (pss_one (ps_ret (pv 3)))))
      pss_nil)
      (pss_cons (ps_asg (pe_op op_mod (pe_callTy call_int1 (by rfl) T.int (by decide +kernel) (pa_cons (pe_op op_add (pe_op op_mul (pe_ix ix_list (pv 0) pe_int (fun _ _ => rfl)) pe_int) pe_int) pa_nil)) pe_int) (pg_sub (pv 0) pe_int set_list))
      (pss_cons (ps_set (i := 3) sc.nd rfl (by first | exact Or.inl rfl | exact Or.inr rfl) (pe_op op_mod (pe_callTy call_int1 (by rfl) T.int (by decide +kernel) (pa_cons (pe_op op_add (pe_op op_mul (pe_ix ix_list (pv 0) pe_int (fun _ _ => rfl)) pe_int) (pe_op op_fdiv (pe_ix ix_list (pv 0) pe_int (fun _ _ => rfl)) pe_int)) pa_nil)) pe_int))
      (pss_one (ps_ret (pe_op op_modN (pe_callTy call_int1 (by rfl) T.int (by decide +kernel) (pa_cons (pe_op op_fdiv (pv 3) pe_int) pa_nil)) (pv 1)))))))), ?_⟩
    have nL : L ≠ p := ne_of hL hp (by intro z; injection z with z; cases ns <;> cases z)
    have nL' : p ≠ L := nL.symm
    have hmn : m ≠ 0 ∧ m.natAbs < 1073741824 := ⟨by omega, by omega⟩
    have hmz : m ≠ 0 := hmn.1
    walk_at "go"
    refine i_itei (fun hb0 => ?_) (fun hb0 => ?_)
    · walk_at "go"
      refine i_itd (fun hlt => ?_) (fun hlt => ?_)
      · obtain ⟨z, hz⟩ := at_ints hi hlt
        walk_at "go"
        refine i_ixl hL hz ?_
        walk_at "go"
        have e18 : (10 : Int) ^ Int.toNat 18 = 1000000000000000000 := by decide
        refine i_itd (fun hz => ?_) (fun hz => ?_)
        · rw [e18] at hz
          walk_at "go"
          refine i_itd (fun h1 => ?_) (fun h1 => ?_)
          · walk_at "go"
            refine k _ _ (fm hm0).1 (fm hm0).2 (went_mk SL (st_upd (i := i + 1) (b := z.fdiv m) (c := c) rfl nL (by walk_at "hp") hn (by omega) (Me.fd (by omega) hm0) hc0 hc1) fun a o n h => by simp only [upd_ne n]; exact h)
          · exact absurd (by omega : 0 < z) h1
        · walk_at "go"
          refine i_itd (fun h1 => ?_) (fun h1 => ?_)
          · exact absurd h1 (by omega)
          · walk_at "go"
            refine k _ _ (fm hm0).1 (fm hm0).2 (went_mk SL (st_upd (i := i + 1) (b := b) rfl nL (by walk_at "hp") hn (by omega) hb (by omega) (by omega)) fun a o n h => by simp only [upd_ne n]; exact h)
      · walk_at "go"
        refine i_itd (fun h1 => ?_) (fun h1 => ?_)
        · exact absurd h1 (by omega)
        · walk_at "go"
          refine k _ _ (fm hm0).1 (fm hm0).2 (went_mk SL (st_upd (i := i) (b := b) rfl nL (by walk_at "hp") hn (by omega) hb (by omega) (by omega)) fun a o n h => by simp only [upd_ne n]; exact h)
    · walk_at "go"
      refine i_itd (fun h1 => ?_) (fun h1 => ?_)
      · walk_at "go"
        refine k _ _ (fm hm0).1 (fm hm0).2 (went_mk SL (st_upd (i := i) (b := b.fdiv m) (c := c) rfl nL (by walk_at "hp") hn (by omega) (Me.fd (by omega) hm0) hc0 hc1) fun a o n h => by simp only [upd_ne n]; exact h)
      · exact absurd (by omega : 0 < b) h1
def spStart (K : PySem.W.Frag) : Sp := fun vs H Q _ => ∃ (s : Addr) (ns : List Int), vs = [.ref s] ∧ SqL K H s (ns.map V.int) ∧ ns.length ≤ 63 ∧ ∀ (p : Addr) (H' : Hp), H p = none → StOk H' p → Same H H' → Q (.ref p) H'
theorem ok_start (T : Txt K mg a) : FnOk P w K mg base CX0 1 a._law_start.f a._law_start.fd ["_law_script"] (spStart K) := by
  have sc : FnScope ["_law_script"] ["_law_script"] (defScope (top 31)) := ⟨rfl, rfl, rfl, by decide +kernel, rfl, by decide +kernel, by decide +kernel⟩
  refine T._law_start.ok sc (fun vs H Q E h => ?_) (fun cdv A outer s H vs Q E hr h => ?_)
  · obtain ⟨p, m, rfl, _⟩ := h
    rfl
  · obtain ⟨sa, ns, rfl, hS, hn, k⟩ := h
    refine ⟨_, (pss_one (ps_ret (pe_lst (pa_cons (pe_callTy call_list_of (by rfl) T.list (by decide +kernel) (pa_cons (pv 0) pa_nil)) (pa_cons pe_int (pa_cons pe_int (pa_cons pe_int pa_nil))))))), ?_⟩
    walk_at "go"
    refine ⟨sa, _, rfl, .inl hS, fun L nL => ?_⟩
    walk_at "go"
    rename_i p np
    obtain ⟨npL, npH⟩ := upd_none np
    refine k p _ npH ⟨L, ns, 0, 0, 1234577, upd_same, ?_, hn, by omega, by omega, by omega, by omega⟩ fun b o e => ?_
    · walk_at "hp"
    · rw [upd_ne (ne_of_none e npH), upd_ne (ne_of_none e nL)]; exact e
end
end Me
set_option maxHeartbeats 8000000
namespace Me
open PySem L2


/-- a thing that the script draws -/
structure Odd (p : Addr) (H : Hp) (v : V) : Prop where
  th : Th H v
  ne : v ≠ .ref p
  sh : ∀ z, v = .str z → z.length ≤ 100
theorem Odd.went {p : Addr} {H H' : Hp} {v : V} (o : Odd p H v) (w : Went p H H') : Odd p H' v := by
  refine ⟨?_, o.ne, o.sh⟩
  have n := o.ne
  cases o.th with
  | non => exact .non
  | bl b => exact .bl b
  | int i => exact .int i
  | str x => exact .str x
  | tup h => exact .tup (w.get (fun e => n (by rw [e])) h)
  | lst h => exact .lst (w.get (fun e => n (by rw [e])) h)
  | dK h => exact .dK (w.get (fun e => n (by rw [e])) h)
theorem Odd.int {p : Addr} {H : Hp} (i : Int) : Odd p H (.int i) := ⟨.int i, by (intro z; cases z), by (intro z e; cases e)⟩
theorem Odd.non {p : Addr} {H : Hp} : Odd p H .non := ⟨.non, by (intro z; cases z), by (intro z e; cases e)⟩
theorem atI_some {α : Type} {xs : List α} {i : Int} (h0 : 0 ≤ i) (h1 : i < (xs.length : Int)) : ∃ v, atI xs i = some v := by
  obtain ⟨j, rfl⟩ := Int.eq_ofNat_of_zero_le h0
  have hj : j < xs.length := by omega
  exact ⟨xs[j], atI_nat (List.getElem?_eq_getElem hj)⟩
theorem i_m1 {r : V → List V → Hp → VK → Prop} {to te : TE} {σ : L2.St} {H : Hp} {Q : VK} (q : to σ H fun x H1 => (∃ a, x = .str a) ∧ te σ H1 fun y H2 => r x [y] H2 Q) : tM1 r to te σ H Q := q
section
variable {P : Program} {w : World} {K : PySem.W.Frag} {mg : Str → Option Value} {base : Heap} {a : Ad}
def spOdd : Sp := fun vs H Q _ => ∃ p, vs = [.ref p] ∧ StOk H p ∧ ∀ v H', Odd p H' v → Went p H H' → Q v H'
theorem ok_odd (T : Txt K mg a) : FnOk P w K mg base CX0 2 a._law_odd.f a._law_odd.fd ["_law_state"] spOdd := by
  have G__law_pull : FnOk P w K mg base CX0 1 a._law_pull.f a._law_pull.fd ["_law_state", "_law_many"] spPull := ok_pull T
  have sc : FnScope ["_law_state", "_law_things"] ["_law_state"] (defScope (top 33)) := ⟨rfl, rfl, rfl, by decide +kernel, rfl, by decide +kernel, by decide +kernel⟩
  refine T._law_odd.ok sc (fun vs H Q E h => ?_) (fun cdv A outer s H vs Q E hr h => ?_)
  · obtain ⟨p, rfl, _⟩ := h
    rfl
  · obtain ⟨p, rfl, S, k⟩ := h
    refine ⟨_, (pss_cons (ps_if (pt_cmpR op_eq (pe_call G__law_pull (hr.mono (by first | decide | omega)) rfl T._law_pull.mg T._law_pull.kp T._law_pull.b .nil pass0 (pa_cons (pv 0) (pa_cons pe_int pa_nil))) pe_int (nomark _))
      (pss_one (ps_ret (pe_op op_sub (pe_call G__law_pull (hr.mono (by first | decide | omega)) rfl T._law_pull.mg T._law_pull.kp T._law_pull.b .nil pass0 (pa_cons (pv 0) (pa_cons pe_int pa_nil))) pe_int)))
      pss_nil)
      (pss_cons (ps_set (i := 1) sc.nd rfl (by first | exact Or.inl rfl | exact Or.inr rfl) (pe_lst (pa_cons pe_non (pa_cons pe_bl (pa_cons pe_bl (pa_cons pe_str (pa_cons pe_str (pa_cons pe_str (pa_cons (pe_tup (pa_cons pe_int pa_nil)) (pa_cons (pe_lst (pa_cons pe_int pa_nil)) (pa_cons pe_dnewK (pa_cons (pe_tup pa_nil) (pa_cons (pe_op op_pow pe_int pe_int) (pa_cons (pe_un un_neg pe_int) (pa_cons pe_int (pa_cons pe_int (pa_cons pe_str (pa_cons pe_str (pa_cons (pe_lst pa_nil) (pa_cons (pe_disp (pps_cons pe_str pe_int pps_nil) (by rfl) (by rfl) (fun z => by cases z) (by decide)) pa_nil))))))))))))))))))))
      (pss_one (ps_ret (pe_ix ix_list (pv 1) (pe_call G__law_pull (hr.mono (by first | decide | omega)) rfl T._law_pull.mg T._law_pull.kp T._law_pull.b .nil pass0 (pa_cons (pv 0) (pa_cons (pe_callB call_len_seq (by rfl) T.len PySem.boot_len (pa_cons (pv 1) pa_nil)) pa_nil))) (fun _ _ => rfl)))))), ?_⟩
    walk_at "go"
    refine ⟨p, _, rfl, S, by decide, by decide, fun r H1 h0 h1 W1 => ?_⟩
    walk_at "go"
    refine i_itei (fun e => ?_) (fun e => ?_)
    · walk_at "go"
      refine ⟨p, _, rfl, W1.1, by decide, by decide, fun r H2 h0 h1 W2 => ?_⟩
      walk_at "go"
      exact k _ _ ⟨.int _, by (intro z; cases z), by (intro z e; cases e)⟩ (W1.trans W2)
    · walk_at "go"
      rename_i p1 n1 p2 n2 p3 n3 p4 n4 p5 n5
      intro p6 n6
      refine ⟨upd_same, [(Sum.inr "a", .int 1)], rfl, by decide, ?_⟩
      rw [upd_upd]
      walk_at "go"
      rename_i p7 n7
      have W2 := (((((W1.new (o := .tup [.int 1]) n1).new (o := .lst [.int 2]) n2).new (o := .dK []) n3).new (o := .tup []) n4).new (o := .lst []) n5).new (o := .dK (mergeK [] [(Sum.inr "a", .int 1)])) n6
      refine ⟨p, _, rfl, (W2.new n7).1, by simp only [List.length_cons, List.length_nil]; decide, by simp only [List.length_cons, List.length_nil]; decide, fun r H2 h0 h1 W3 => ?_⟩
      walk_at "go"
      obtain ⟨v, hv, hm⟩ := at_mem h0 h1
      have hs : ∀ q o, H1 q = some o → q ≠ p → H2 q = some o := fun q o e ne => (((((((Went.rfl' W1.1).new n1).new n2).new n3).new n4).new n5).new n6 |>.new n7 |>.trans W3).2.1 q o ne e
      have n7p : p ≠ p7 := by obtain ⟨L, ns, i, b, c, e, _⟩ := W2.1; exact ne_of_none e n7
      refine i_ixl (by walk_at "hp") hv ?_
      obtain ⟨L0, ns0, i0, b0, c0, e0, _⟩ := W1.1
      have q1 : p ≠ p1 := by walk_at "ne"
      have q2 : p ≠ p2 := by walk_at "ne"
      have q3 : p ≠ p3 := by walk_at "ne"
      have q4 : p ≠ p4 := by walk_at "ne"
      have q5 : p ≠ p5 := by walk_at "ne"
      have q6 : p ≠ p6 := by walk_at "ne"
      refine k v H2 ?_ ((W2.new n7).trans W3)
      have rq : ∀ {q : Addr}, p ≠ q → V.ref q ≠ V.ref p := fun n z => n (V.ref.inj z).symm
      simp only [List.mem_cons, List.not_mem_nil, or_false] at hm
      rcases hm with rfl | rfl | rfl | rfl | rfl | rfl | rfl | rfl | rfl | rfl | rfl | rfl | rfl | rfl | rfl | rfl | rfl | rfl
      case _ => exact ⟨.non, by (intro z; cases z), by (intro z e; cases e)⟩
      case _ => exact ⟨.bl _, by (intro z; cases z), by (intro z e; cases e)⟩
      case _ => exact ⟨.bl _, by (intro z; cases z), by (intro z e; cases e)⟩
      case _ => exact ⟨.str _, by (intro z; cases z), by (intro z e; injection e with e; rw [← e]; decide)⟩
      case _ => exact ⟨.str _, by (intro z; cases z), by (intro z e; injection e with e; rw [← e]; decide)⟩
      case _ => exact ⟨.str _, by (intro z; cases z), by (intro z e; injection e with e; rw [← e]; decide)⟩
      case _ => exact ⟨.tup (by walk_at "hp"), rq q1, by (intro z e; cases e)⟩
      case _ => exact ⟨.lst (by walk_at "hp"), rq q2, by (intro z e; cases e)⟩
      case _ => exact ⟨.dK (by walk_at "hp"), rq q3, by (intro z e; cases e)⟩
      case _ => exact ⟨.tup (by walk_at "hp"), rq q4, by (intro z e; cases e)⟩
      case _ => exact ⟨.int _, by (intro z; cases z), by (intro z e; cases e)⟩
      case _ => exact ⟨.int _, by (intro z; cases z), by (intro z e; cases e)⟩
      case _ => exact ⟨.int _, by (intro z; cases z), by (intro z e; cases e)⟩
      case _ => exact ⟨.int _, by (intro z; cases z), by (intro z e; cases e)⟩
      case _ => exact ⟨.str _, by (intro z; cases z), by (intro z e; injection e with e; rw [← e]; decide)⟩
      case _ => exact ⟨.str _, by (intro z; cases z), by (intro z e; injection e with e; rw [← e]; decide)⟩
      case _ => exact ⟨.lst (by walk_at "hp"), rq q5, by (intro z e; cases e)⟩
      case _ => exact ⟨.dK (by walk_at "hp"), rq q6, by (intro z e; cases e)⟩
def spWord : Sp := fun vs H Q _ => ∃ p, vs = [.ref p] ∧ StOk H p ∧ ∀ (z : Str) H', z.length ≤ 100 → Went p H H' → Q (.str z) H'
theorem ok_word (T : Txt K mg a) : FnOk P w K mg base CX0 2 a._law_word.f a._law_word.fd ["_law_state"] spWord := by
  have G__law_pull : FnOk P w K mg base CX0 1 a._law_pull.f a._law_pull.fd ["_law_state", "_law_many"] spPull := ok_pull T
  have sc : FnScope ["_law_state", "_law_word_here", "_law_k", "_law_at"] ["_law_state"] (defScope (top 34)) := ⟨rfl, rfl, rfl, by decide +kernel, rfl, by decide +kernel, by decide +kernel⟩
  refine T._law_word.ok sc (fun vs H Q E h => ?_) (fun cdv A outer s H vs Q E hr h => ?_)
  · obtain ⟨p, rfl, _⟩ := h
    rfl
  · obtain ⟨p, rfl, S, k⟩ := h
    refine ⟨_, (pss_cons (ps_set (i := 1) sc.nd rfl (by first | exact Or.inl rfl | exact Or.inr rfl) (pe_join pe_str (pe_lc (own := [("_law_k", 2)]) (g := gName 2) (by rfl) sc.nd (pi_range1 rfl T.range (pa_cons (pe_call G__law_pull (hr.mono (by first | decide | omega)) rfl T._law_pull.mg T._law_pull.kp T._law_pull.b .nil pass0 (pa_cons (pv 0) (pa_cons pe_int pa_nil))) pa_nil)) (blkOk_by (own := [("_law_k", 2)]) (N := ["_law_state", "_law_word_here", "_law_k", "_law_at"]) (sc := defScope (top 34)) (by decide +kernel)) (fun _ _ _ _ _ => pg_name (i := 2) sc.nd rfl (Or.inl rfl)) (fun _ _ _ _ _ => pts_nil) (fun _ _ _ _ _ => (by exact (pe_ix ix_str pe_str (pe_call G__law_pull (hr.mono (by first | decide | omega)) rfl T._law_pull.mg T._law_pull.kp T._law_pull.b .nil pass0 (pa_cons (pv 0) (pa_cons pe_int pa_nil))) (fun _ _ => rfl)))))))
      (pss_cons (ps_if (PW.pt (pw_and (pt_cmpR op_ne (pv 1) pe_str (nomark _)) (pw_and1 (pt_cmpR op_eq (pe_call G__law_pull (hr.mono (by first | decide | omega)) rfl T._law_pull.mg T._law_pull.kp T._law_pull.b .nil pass0 (pa_cons (pv 0) (pa_cons pe_int pa_nil))) pe_int (nomark _)))))
      (pss_cons (ps_set (i := 3) sc.nd rfl (by first | exact Or.inl rfl | exact Or.inr rfl) (pe_call G__law_pull (hr.mono (by first | decide | omega)) rfl T._law_pull.mg T._law_pull.kp T._law_pull.b .nil pass0 (pa_cons (pv 0) (pa_cons (pe_callB call_len_str (by rfl) T.len PySem.boot_len (pa_cons (pv 1) pa_nil)) pa_nil))))
      (pss_one (ps_set (i := 1) sc.nd rfl (by first | exact Or.inl rfl | exact Or.inr rfl) (pe_op op_add_str (pe_op op_add_str (pe_slice sl_str (pv 1) po_none (po_some (pv 3))) (pe_ix ix_str pe_str (pe_call G__law_pull (hr.mono (by first | decide | omega)) rfl T._law_pull.mg T._law_pull.kp T._law_pull.b .nil pass0 (pa_cons (pv 0) (pa_cons pe_int pa_nil))) (fun _ _ => rfl))) (pe_slice sl_str (pv 1) (po_some (pe_op op_add (pv 3) pe_int)) po_none)))))
      pss_nil)
      (pss_one (ps_ret (pv 1))))), ?_⟩
    walk_at "go"
    refine i_m1 ?_
    walk_at "go"
    refine ⟨⟨_, rfl⟩, ?_⟩
    refine ⟨_, rfl, p, _, rfl, S, by decide, by decide, fun r2 H2 g0 g1 W2 => ?_⟩
    refine ⟨r2, rfl, by omega, by omega, fun D nD => ?_⟩
    have Dp : D ≠ p := W2.1.ne nD
    have D0 : H D = none := W2.none nD Dp
    refine lc_range (lo := 0) (n := r2.toNat) (fun i H3 => ∃ ys : List Str, H3 D = some (.lst (ys.map V.str)) ∧ ys.length = i ∧ (∀ y ∈ ys, y.length = 1) ∧ Went p H H3) ⟨[], upd_same, rfl, by simp, W2.new nD⟩ ?_ ?_
    · rintro i H3 hi ⟨ys, e1, e2, e3, W3⟩
      refine ⟨rfl, ?_⟩
      dsimp only [tYes]
      rw [if_pos rfl]
      refine ⟨_, rfl, p, _, rfl, W3.1, by decide, by decide, fun r4 H4 q0 q1 W4 => ?_⟩
      have hl : (("abcdefghijklmnopqrstuvwxyz" : Str).cps.toList).length = 26 := by decide
      obtain ⟨c, hc⟩ := atI_some (xs := ("abcdefghijklmnopqrstuvwxyz" : Str).cps.toList) q0 (by rw [hl]; omega)
      refine ⟨_, r4, c, rfl, rfl, by decide, hc, ys.map V.str, W4.get Dp e1, by rw [List.length_map]; show ys.length < 16777216; omega, ys ++ [⟨#[c]⟩], ?_, ?_, ?_, ?_⟩
      · rw [upd_same]; simp
      · simp [e2]
      · intro y hy
        rcases List.mem_append.mp hy with hy | hy
        · exact e3 y hy
        · rw [List.mem_singleton.mp hy]; rfl
      · exact Went.wr S (W3.trans W4) D0 Dp
    · rintro H3 ⟨ys, e1, e2, e3, W3⟩
      have es : (ys.map (·.length)).sum = ys.length := by
        clear e1 e2
        induction ys with
        | nil => rfl
        | cons y r ih =>
          rw [List.map_cons, List.sum_cons, ih fun z hz => e3 z (List.mem_cons_of_mem _ hz), e3 y List.mem_cons_self, List.length_cons]
          omega
      refine ⟨_, D, ys, rfl, rfl, .inl (SqL.of e1), ?_, ?_⟩
      · rw [es]
        show ys.length + ys.length * 0 ≤ 16777216
        omega
      have lz : (Txt.join (Str.ofString "") ys).length ≤ 20 := by rw [PySem.W.KT.join_ones ys e3]; omega
      have ez : Txt.join "" ys = Txt.join (Str.ofString "") ys := rfl
      generalize hzz : Txt.join (Str.ofString "") ys = z at lz
      have hzz' : Txt.join "" ys = z := hzz
      try rw [hzz']
      try rw [hzz]
      walk_at "go"
      refine i_itesn (fun ne => ?_) (fun e => ?_)
      · have z1 : 0 < z.length := by
          refine Nat.pos_of_ne_zero fun e => ne ?_
          cases z with | mk c => 
          have : c = #[] := Array.eq_empty_of_size_eq_zero e
          rw [this]; rfl
        walk_at "go"
        refine ⟨p, _, rfl, W3.1, by decide, by decide, fun r3 H4 q0 q1 W4 => ?_⟩
        walk_at "go"
        refine i_itei (fun e => ?_) (fun e => ?_)
        · walk_at "go"
          refine ⟨z, rfl, Nat.le_trans lz (by decide), ?_⟩
          walk_at "go"
          refine ⟨p, _, rfl, W4.1, by omega, by omega, fun r5 H5 q2 q3 W5 => ?_⟩
          walk_at "go"
          have lc : ∀ (lo hi : Option Int), (cutS z lo hi).length ≤ 20 := fun lo hi => Nat.le_trans (cutS_length z lo hi) lz
          have hl : (("A0 _-~[Z9" : Str).cps.toList).length = 9 := by decide
          refine ⟨_, rfl, _, rfl, _, rfl, z, rfl, Nat.le_trans lz (by decide), ?_⟩
          refine ⟨_, rfl, p, _, rfl, W5.1, by decide, by decide, fun r6 H6 q4 q5 W6 => ?_⟩
          obtain ⟨c, hc⟩ := atI_some (xs := ("A0 _-~[Z9" : Str).cps.toList) q4 (by rw [hl]; omega)
          refine ⟨_, r6, c, rfl, rfl, by decide, hc, ?_⟩
          refine ⟨_, _, rfl, rfl, ?_, ?_⟩
          · exact Nat.le_trans (Nat.add_le_add (lc _ _) (Nat.le_refl 1)) (by decide)
          refine ⟨_, rfl, _, rfl, _, _, rfl, rfl, _, rfl, z, rfl, Nat.le_trans lz (by decide), ?_⟩
          have l1 : (cutS z none (some r5) ++ (⟨#[c]⟩ : Str)).length ≤ 21 := by
            rw [PySem.Str.length_append]
            exact Nat.add_le_add (lc _ _) (Nat.le_refl 1)
          have l2 : ((cutS z none (some r5) ++ (⟨#[c]⟩ : Str)) ++ cutS z (some (r5 + 1)) none).length ≤ 41 := by
            rw [PySem.Str.length_append]
            exact Nat.add_le_add l1 (lc _ _)
          refine ⟨_, _, rfl, rfl, Nat.le_trans (Nat.add_le_add l1 (lc _ _)) (by decide), ?_⟩
          walk_at "go"
          exact k _ _ (Nat.le_trans l2 (by decide)) ((W3.trans W4).trans (W5.trans W6))
        · walk_at "go"
          exact k _ _ (by omega) (W3.trans W4)
      · walk_at "go"
        exact k _ _ (by omega) W3
end
end Me
set_option maxHeartbeats 8000000
namespace Me
open PySem L2


def widBad (n : Int) : V → Option Str
  | .non => none
  | .int i => if 1 ≤ i ∧ i ≤ 60 ∧ n ≤ 1 * 2 ^ i.toNat then none else some ("width" : Str)
  | _ => some ("width" : Str)
def numBad : V → V → V → Option Str
  | .int l, .int h, w => if 2 ≤ h - l + 1 ∧ h - l + 1 ≤ 2 ^ Int.toNat 60 then widBad (h - l + 1) w else some ("high" : Str)
  | .int _, _, _ => some ("high" : Str)
  | _, _, _ => some ("low" : Str)
def dueOf (fs : List V) : Option Str → List V
  | none => .str "made" :: fs
  | some z => [.str "refused", .str z]
def Kept (H : Hp) (x : Addr) (H' : Hp) : Prop := ∀ b o, b ≠ x → H b = some o → H' b = some o
def SpI (C bad : Addr) (r : Option Str) (fs : List (Str × V)) (x dx : Addr) (H : Hp) (Q : VK) (E : XK) : Prop :=
  (r = none → ∀ H', Kept H x H' → H' x = some (.ins C dx fs) → Q .non H') ∧
  (∀ z, r = some z → ∀ d H', Same H H' → H' d = some (.xd [("part", .str z)]) → E (.ref bad) (some d) H')
theorem Kept.upd {H H' : Hp} {x : Addr} {o : HO} (k : Kept H x H') : Kept H x (upd H' x o) := fun b u n e => by rw [upd_ne n]; exact k b u n e
theorem Kept.rfl' {H : Hp} {x : Addr} : Kept H x H := fun _ _ _ e => e
theorem SpI.bad {C bad : Addr} {r : Option Str} {fs : List (Str × V)} {x dx : Addr} {H H1 : Hp} {Q : VK} {E : XK} {z : Str} (k : SpI C bad r fs x dx H Q E) (e : r = some z) (s : Same H H1) : badW bad z E H1 :=
  fun d n => k.2 z e d _ (same_new s n) upd_same
theorem i_chain {r r' : R2} {ta tb tc : TE} {σ : L2.St} {H : Hp} {Q : VK} (q : ta σ H fun x H1 => tb σ H1 fun y H2 => r x y H2 fun z H3 => ∃ k, z = .bl k ∧ (if k = true then tc σ H3 fun w' H4 => r' y w' H4 Q else Q (.bl false) H3)) : tChain r r' ta tb tc σ H Q := q
theorem i_sfld {K : PySem.W.Frag} {ta tv : TE} {f : Str} {D : Ends} {σ : L2.St} {H : Hp} (q : tv σ H fun y H1 => ta σ H1 fun x H2 => ∃ a C dx fs, x = .ref a ∧ H2 a = some (.ins C dx fs) ∧ Cls K C ∧ NoAttr K C f ∧ fs.length < 1000 ∧ D.nx σ (upd H2 a (.ins C dx (putF f y fs)))) : sFld K ta tv f D σ H := q
theorem same_rfl {H : Hp} : Same H H := fun _ _ e => e
section
variable {P : Program} {w : World} {K : PySem.W.Frag} {mg : Str → Option Value} {base : Heap} {a : Ad}
def spNum (a : Ad) : Sp := fun vs H Q E => ∃ x dx l h wv, vs = [.ref x, l, h, wv] ∧ H x = some (.ins (a.C 1) dx []) ∧ Th H l ∧ Th H h ∧ Th H wv ∧ SpI (a.C 1) a.bad (numBad l h wv) [("low", l), ("high", h), ("width", wv)] x dx H Q E
theorem ok_num (T : Txt K mg a) : FnOk P w K mg base (L2.CX P w) 3 (a.I 1).f (a.I 1).fd ["self", "low", "high", "width"] (spNum a) := by
  have G_is_int : FnOk P w K mg base CX0 1 a.is_int.f a.is_int.fd ["thing"] spIsInt := ok_is_int T
  have G_is_int_within : FnOk P w K mg base CX0 2 a.is_int_within.f a.is_int_within.fd ["thing", "least", "most"] spWithin := ok_within T
  have sc : FnScope ["self", "low", "high", "width"] ["self", "low", "high", "width"] (defScope (inClass (top 11) 0)) := ⟨rfl, rfl, rfl, by decide +kernel, rfl, by decide +kernel, by decide +kernel⟩
  refine T.I1.ok sc (fun vs H Q E h => ?_) (fun cdv A outer s H vs Q E hr h => ?_)
  · obtain ⟨x, dx, l, h, wv, rfl, _⟩ := h
    rfl
  · obtain ⟨x, dx, l, h, wv, rfl, hx, hl, hh, hw, k⟩ := h
    have tk : Takes (cxOf (L2.CX P w) P w K mg base ["self", "low", "high", "width"] "Number.__init__" (defScope (inClass (top 11) 0)) (a.I 1).f cdv A outer s H E) (fun cls d _ H => E cls d H) := takes_of rfl rfl rfl rfl
    refine ⟨_, (pss_cons (ps_if (pt_not (pt_val (pe_call G_is_int (hr.mono (by first | decide | omega)) rfl T.is_int.mg T.is_int.kp T.is_int.b .nil pass0 (pa_cons (pv 1) pa_nil))))
      (pss_one (ps_bad T.bad rfl (hr.mono (by decide)) tk))
      pss_nil)
      (pss_cons (ps_if (PW.pt (pw_or (pt_not (pt_val (pe_call G_is_int (hr.mono (by first | decide | omega)) rfl T.is_int.mg T.is_int.kp T.is_int.b .nil pass0 (pa_cons (pv 2) pa_nil)))) (pw_or1 (pt_not (pt_chain op_le op_le pe_int (pe_op op_add (pe_op op_sub (pv 2) (pv 1)) pe_int) (pe_op op_pow pe_int pe_int))))))
      (pss_one (ps_bad T.bad rfl (hr.mono (by decide)) tk))
      pss_nil)
      (pss_cons (ps_if (pt_cmpR op_notN (pv 3) pe_non (nomark _))
      (pss_one (ps_if (PW.pt (pw_or (pt_not (pt_val (pe_call G_is_int_within (hr.mono (by first | decide | omega)) rfl T.is_int_within.mg T.is_int_within.kp T.is_int_within.b .nil pass0 (pa_cons (pv 3) (pa_cons pe_int (pa_cons pe_int pa_nil)))))) (pw_or1 (pt_cmpR op_lt (pe_op op_shl pe_int (pv 3)) (pe_op op_add (pe_op op_sub (pv 2) (pv 1)) pe_int) (nomark _)))))
      (pss_one (ps_bad T.bad rfl (hr.mono (by decide)) tk))
      pss_nil))
      pss_nil)
      (pss_cons (ps_fld (pv 0) (pv 1) rfl)
      (pss_cons (ps_fld (pv 0) (pv 2) rfl)
      (pss_one (ps_fld (pv 0) (pv 3) rfl))))))), ?_⟩
    walk_at "go"
    refine ⟨l, rfl, hl, ?_⟩
    walk_at "go"
    cases hl with
    | int l =>
      refine i_no rfl ?_
      walk_at "go"
      refine ⟨h, rfl, hh, ?_⟩
      walk_at "go"
      cases hh with
      | int h =>
        refine i_no rfl ?_
        walk_at "go"
        have e60 : (2 : Int) ^ Int.toNat 60 = 1152921504606846976 := by decide +kernel
        have high : ¬ (2 ≤ h - l + 1 ∧ h - l + 1 ≤ (2 : Int) ^ Int.toNat 60) → numBad (.int l) (.int h) wv = some ("high" : Str) := fun q => if_neg q
        have lf : H x = some (.ins (a.C 1) dx []) := hx
        have cl := (T.kc 1 (by decide)).cl
        have no := (T.kc 1 (by decide)).no
        refine i_chain ?_
        walk_at "go"
        refine i_itd (fun h1 => ?_) (fun h1 => ?_)
        · walk_at "go"
          refine i_itn (fun h2 => ?_) (fun h2 => ?_)
          · exact k.bad (high (by omega)) same_rfl
          · have ok : numBad (.int l) (.int h) wv = widBad (h - l + 1) wv := if_pos ⟨by omega, by omega⟩
            rw [ok] at k
            walk_at "go"
            refine ⟨rfl, _, rfl, ?_⟩
            have fin : widBad (h - l + 1) wv = none → tSeq (sFld K (tVar 0) (tVar 1) "low") (tSeq (sFld K (tVar 0) (tVar 2) "high") (sFld K (tVar 0) (tVar 3) "width")) { nx := fun _ H' => Q .non H', rt := Q } (L2.start ["self", "low", "high", "width"] [.ref x, .int l, .int h, wv]) H := fun e => by
              walk_at "go"
              refine i_sfld ?_
              walk_at "go"
              refine ⟨x, _, dx, [], rfl, hx, cl, no _ (by decide), by decide, ?_⟩
              walk_at "go"
              refine i_sfld ?_
              walk_at "go"
              refine ⟨x, _, dx, [("low", .int l)], rfl, upd_same, cl, no _ (by decide), (by show (1 : Nat) < 1000; decide), ?_⟩
              dsimp only
              refine i_sfld ?_
              walk_at "go"
              refine ⟨x, _, dx, [("low", .int l), ("high", .int h)], rfl, upd_same, cl, no _ (by decide), (by show (2 : Nat) < 1000; decide), ?_⟩
              exact k.1 e _ Kept.rfl'.upd.upd.upd upd_same
            refine i_itn (fun h3 => ?_) (fun h3 => ?_)
            · walk_at "go"
              refine ⟨wv, _, _, rfl, hw, ?_⟩
              cases hw with
              | int i =>
                have wd : ¬ (1 ≤ i ∧ i ≤ 60 ∧ h - l + 1 ≤ 1 * 2 ^ i.toNat) → widBad (h - l + 1) (.int i) = some ("width" : Str) := fun q => if_neg q
                refine ⟨_, rfl, ?_⟩
                by_cases h4 : 1 ≤ i ∧ i ≤ 60
                · refine i_no (by show (!(decide (1 ≤ i) && decide (i ≤ 60))) = false; rw [decide_eq_true h4.1, decide_eq_true h4.2]; rfl) ?_
                  obtain ⟨h5, h6⟩ := h4
                  walk_at "go"
                  refine i_itd (fun h7 => ?_) (fun h7 => ?_)
                  · exact k.bad (wd (by omega)) same_rfl
                  · exact fin (if_pos ⟨by omega, by omega, by omega⟩)
                · refine i_yes (by
                    show (!(decide (1 ≤ i) && decide (i ≤ 60))) = true
                    rw [← Bool.decide_and, decide_eq_false h4]; rfl) ?_
                  exact k.bad (wd (by omega)) same_rfl
              | non => exact absurd rfl h3
              | _ => exact ⟨_, rfl, i_yes rfl (k.bad rfl same_rfl)⟩
            · subst h3
              exact fin rfl
        · walk_at "go"
          exact k.bad (high (by omega)) same_rfl
      | _ =>
        refine i_yes rfl ?_
        exact k.bad rfl same_rfl
    | _ =>
      refine i_yes rfl ?_
      exact k.bad rfl same_rfl
end
end Me
set_option maxHeartbeats 8000000
namespace Me
open PySem L2


/-- a thing, and the class of the text that it is of -/
inductive Itm (a : Ad) (H : Hp) : V → Option Nat → Prop where
  | th {v : V} (h : Th H v) : Itm a H v none
  | ins {p dx : Addr} {fs : List (Str × V)} {i : Nat} (hi : i < 11) (h : H p = some (.ins (a.C i) dx fs)) : Itm a H (.ref p) (some i)
theorem Itm.same {a : Ad} {H H' : Hp} {v : V} {k : Option Nat} (h : Itm a H v k) (s : Same H H') : Itm a H' v k := by
  cases h with
  | th h => exact .th (h.same s)
  | ins hi h => exact .ins hi (s _ _ h)
theorem Itm.kit {K : PySem.W.Frag} {mg : Str → Option Value} {a : Ad} (T : Txt K mg a) {H : Hp} {v : V} {k : Option Nat} (h : Itm a H v k) :
    ∃ t, TyX K H v t ∧ ∀ j, j < 11 → PySem.W.kitOne K t (.ref (a.C j)) = some (decide (k = some j)) := by
  cases h with
  | th h =>
    have go : ∀ t ∈ tys, ∀ j, j < 11 → PySem.W.kitOne K (.type t) (.ref (a.C j)) = some (decide ((none : Option Nat) = some j)) := fun t m j hj => by
      rw [(T.kc j hj).tK t m]; rfl
    cases h with
    | non => exact ⟨_, .base .non, go _ (by decide)⟩
    | bl b => exact ⟨_, .base (.bl b), go _ (by decide)⟩
    | int i => exact ⟨_, .base (.int i), go _ (by decide)⟩
    | str x => exact ⟨_, .base (.str x), go _ (by decide)⟩
    | tup h => exact ⟨_, .base (.tup h), go _ (by decide)⟩
    | lst h => exact ⟨_, .base (.lst h), go _ (by decide)⟩
    | dK h => exact ⟨_, .base (.dK h), go _ (by decide)⟩
  | @ins p dx fs i hi h =>
    refine ⟨_, (T.kc i hi).ty h, fun j hj => ?_⟩
    rw [(T.kc i hi).kt j hj]
    congr 1
    by_cases e : i = j
    · rw [decide_eq_true e, decide_eq_true (by rw [e])]
    · rw [decide_eq_false e, decide_eq_false (fun q => e (Option.some.inj q))]
theorem kitAny_or {K : PySem.W.Frag} {t c : Value} {cs : List Value} {b r : Bool} (h : PySem.W.kitOne K t c = some b) (hr : PySem.W.kitAny K t cs = some r) : PySem.W.kitAny K t (c :: cs) = some (b || r) := by
  refine kitAny_cons h (fun e => ?_) (fun e => ?_)
  · rw [e]; exact hr
  · rw [e]; rfl
def isK (k : Option Nat) (js : List Nat) : Bool := js.any fun j => decide (k = some j)
theorem kitAny_js {K : PySem.W.Frag} {a : Ad} {t : Value} {k : Option Nat} (h : ∀ j, j < 11 → PySem.W.kitOne K t (.ref (a.C j)) = some (decide (k = some j))) : ∀ js : List Nat, (∀ j ∈ js, j < 11) → PySem.W.kitAny K t (js.map fun j => .ref (a.C j)) = some (isK k js)
  | [], _ => rfl
  | j :: js, hj => kitAny_or (h j (hj j List.mem_cons_self)) (kitAny_js h js fun i m => hj i (List.mem_cons_of_mem _ m))
theorem paired_js {a : Ad} : ∀ js : List Nat, PySem.Paired ClsV (js.map fun j => V.ref (a.C j)) (js.map fun j => Value.ref (a.C j))
  | [] => .nil
  | j :: js => .cons (.own _) (paired_js js)
/-- isinstance(x, (classes ..)) -/
theorem i_isT {K : PySem.W.Frag} {mg : Str → Option Value} {a : Ad} (T : Txt K mg a) {H : Hp} {Q : VK} {x : V} {k : Option Nat} {tp : Addr} (js : List Nat) (hj : ∀ j ∈ js, j < 11) (h : Itm a H x k) (ht : H tp = some (.tup (js.map fun j => V.ref (a.C j)))) (q : Q (.bl (isK k js)) H) : rIsiT K [x, .ref tp] H Q := by
  obtain ⟨t, ty, hk⟩ := h.kit T
  exact ⟨x, tp, _, t, _, _, rfl, ht, paired_js js, ty, kitAny_js hk js hj, q⟩
/-- isinstance(x, class) -/
theorem i_isC {K : PySem.W.Frag} {mg : Str → Option Value} {a : Ad} (T : Txt K mg a) {H : Hp} {Q : VK} {x : V} {k : Option Nat} {j : Nat} (hj : j < 11) (h : Itm a H x k) (q : Q (.bl (decide (k = some j))) H) : rIsi K [x, .ref (a.C j)] H Q := by
  obtain ⟨t, ty, hk⟩ := h.kit T
  exact ⟨x, _, t, _, _, rfl, .own _, ty, hk j hj, q⟩
def bitBad (y : V) : Option Str := if withinV y 1 16 = true then none else some ("many" : Str)
def callBad (y : V) : Option Str := if nameV y = true then none else some ("name" : Str)
def itemBad (k : Option Nat) (wv : V) : Option Str := if isK k [1, 2, 3] = true then (if wv = .non ∨ withinV wv 1 3 = true then none else some ("width" : Str)) else some ("item" : Str)
theorem ok0x {P : Program} {w : World} {K : PySem.W.Frag} {mg : Str → Option Value} {base : Heap} {x qual : Str} {params : Arguments} {body : List Stmt} {scope : Scope} {dv : List V} {f : Addr} {fd : FuncData} {N ps : List Str} {k : Nat} {sp : Sp} (F : FunD K x qual params body scope dv [] f fd) (S : FnScope N ps scope) (len : ∀ vs H Q E, sp vs H Q E → vs.length = ps.length)
    (go : ∀ (cdv : Value) (A : Around) (outer : List Env) (s : Shared) (H : Hp) (vs : List V) (Q : VK) (E : XK), Room k (A.deeper (PyProof.Rows.envOfC qual scope s.heap.objs.size f cdv)) → sp vs H Q E →
      ∃ t, PSs (cxOf (L2.CX P w) P w K mg base N qual scope f cdv A outer s H E) body t ∧ t { nx := fun _ H' => Q .non H', rt := Q } (start N vs) H) : FnOk P w K mg base (L2.CX P w) (k + 1) f fd ps sp := F.ok S len go
section
variable {P : Program} {w : World} {K : PySem.W.Frag} {mg : Str → Option Value} {base : Heap} {a : Ad}
def spBit (a : Ad) : Sp := fun vs H Q E => ∃ x dx y, vs = [.ref x, y] ∧ H x = some (.ins (a.C 2) dx []) ∧ Th H y ∧ SpI (a.C 2) a.bad (bitBad y) [("many", y)] x dx H Q E
theorem ok_bit (T : Txt K mg a) : FnOk P w K mg base (L2.CX P w) 3 (a.I 2).f (a.I 2).fd ["self", "many"] (spBit a) := by
  have G_is_int_within : FnOk P w K mg base CX0 2 a.is_int_within.f a.is_int_within.fd ["thing", "least", "most"] spWithin := ok_within T
  have sc : FnScope ["self", "many"] ["self", "many"] (defScope (inClass (top 12) 0)) := ⟨rfl, rfl, rfl, by decide +kernel, rfl, by decide +kernel, by decide +kernel⟩
  refine ok0x T.I2 sc (fun vs H Q E h => ?_) (fun cdv A outer s H vs Q E hr h => ?_)
  · obtain ⟨x, dx, y, rfl, _⟩ := h
    rfl
  · obtain ⟨x, dx, y, rfl, hx, hy, k⟩ := h
    have tk : Takes (cxOf (L2.CX P w) P w K mg base ["self", "many"] "Bits.__init__" (defScope (inClass (top 12) 0)) (a.I 2).f cdv A outer s H E) (fun cls d _ H => E cls d H) := takes_of rfl rfl rfl rfl
    refine ⟨_, (pss_cons (ps_if (pt_not (pt_val (pe_call G_is_int_within (hr.mono (by first | decide | omega)) rfl T.is_int_within.mg T.is_int_within.kp T.is_int_within.b .nil pass0 (pa_cons (pv 1) (pa_cons pe_int (pa_cons pe_int pa_nil))))))
      (pss_one (ps_bad T.bad rfl (hr.mono (by decide)) tk))
      pss_nil)
      (pss_one (ps_fld (pv 0) (pv 1) rfl))), ?_⟩
    walk_at "go"
    refine ⟨y, _, _, rfl, hy, ?_⟩
    walk_at "go"
    refine i_itb (fun h1 => ?_) (fun h1 => ?_)
    · refine k.bad (if_neg ?_) same_rfl
      intro z; rw [z] at h1; cases h1
    · have h1 : withinV y 1 16 = true := by revert h1; cases withinV y 1 16 <;> simp
      walk_at "go"
      dsimp only
      refine i_sfld ?_
      walk_at "go"
      refine ⟨x, _, dx, [], rfl, hx, (T.kc 2 (by decide)).cl, (T.kc 2 (by decide)).no _ (by decide), by decide, ?_⟩
      exact k.1 (if_pos h1) _ Kept.rfl'.upd upd_same
def spCal (a : Ad) : Sp := fun vs H Q E => ∃ x dx y, vs = [.ref x, y] ∧ H x = some (.ins (a.C 3) dx []) ∧ Th H y ∧ (∀ z, y = .str z → z.length ≤ 100) ∧ SpI (a.C 3) a.bad (callBad y) [("name", y)] x dx H Q E
theorem ok_cal (T : Txt K mg a) : FnOk P w K mg base (L2.CX P w) 3 (a.I 3).f (a.I 3).fd ["self", "name"] (spCal a) := by
  have G_is_name : FnOk P w K mg base CX0 1 a.is_name.f a.is_name.fd ["thing"] (spIsName True) := ok_is_name T
  have sc : FnScope ["self", "name"] ["self", "name"] (defScope (inClass (top 13) 0)) := ⟨rfl, rfl, rfl, by decide +kernel, rfl, by decide +kernel, by decide +kernel⟩
  refine ok0x T.I3 sc (fun vs H Q E h => ?_) (fun cdv A outer s H vs Q E hr h => ?_)
  · obtain ⟨x, dx, y, rfl, _⟩ := h
    rfl
  · obtain ⟨x, dx, y, rfl, hx, hy, hz, k⟩ := h
    have tk : Takes (cxOf (L2.CX P w) P w K mg base ["self", "name"] "Call.__init__" (defScope (inClass (top 13) 0)) (a.I 3).f cdv A outer s H E) (fun cls d _ H => E cls d H) := takes_of rfl rfl rfl rfl
    refine ⟨_, (pss_cons (ps_if (pt_not (pt_val (pe_call G_is_name (hr.mono (by first | decide | omega)) rfl T.is_name.mg T.is_name.kp T.is_name.b .nil pass0 (pa_cons (pv 1) pa_nil))))
      (pss_one (ps_bad T.bad rfl (hr.mono (by decide)) tk))
      pss_nil)
      (pss_one (ps_fld (pv 0) (pv 1) rfl))), ?_⟩
    walk_at "go"
    refine ⟨y, rfl, hy, hz, fun H1 s1 => ?_⟩
    walk_at "go"
    refine i_itb (fun h1 => ?_) (fun h1 => ?_)
    · refine k.bad (if_neg ?_) s1
      intro z; rw [z] at h1; cases h1
    · have h1 : nameV y = true := by revert h1; cases nameV y <;> simp
      walk_at "go"
      dsimp only
      refine i_sfld ?_
      walk_at "go"
      refine ⟨x, _, dx, [], rfl, s1 _ _ hx, (T.kc 3 (by decide)).cl, (T.kc 3 (by decide)).no _ (by decide), by decide, ?_⟩
      exact k.1 (if_pos h1) _ (Kept.upd fun b o _ e => s1 b o e) upd_same
def spItm (a : Ad) : Sp := fun vs H Q E => ∃ x dx y wv i, vs = [.ref x, y, wv] ∧ H x = some (.ins (a.C 4) dx []) ∧ Itm a H y i ∧ Th H wv ∧ SpI (a.C 4) a.bad (itemBad i wv) [("item", y), ("width", wv)] x dx H Q E
theorem ok_itm (T : Txt K mg a) : FnOk P w K mg base (L2.CX P w) 3 (a.I 4).f (a.I 4).fd ["self", "item", "width"] (spItm a) := by
  have G_is_int_within : FnOk P w K mg base CX0 2 a.is_int_within.f a.is_int_within.fd ["thing", "least", "most"] spWithin := ok_within T
  have sc : FnScope ["self", "item", "width"] ["self", "item", "width"] (defScope (inClass (top 14) 0)) := ⟨rfl, rfl, rfl, by decide +kernel, rfl, by decide +kernel, by decide +kernel⟩
  refine ok0x T.I4 sc (fun vs H Q E h => ?_) (fun cdv A outer s H vs Q E hr h => ?_)
  · obtain ⟨x, dx, y, wv, i, rfl, _⟩ := h
    rfl
  · obtain ⟨x, dx, y, wv, i, rfl, hx, hy, hw, k⟩ := h
    have tk : Takes (cxOf (L2.CX P w) P w K mg base ["self", "item", "width"] "Items.__init__" (defScope (inClass (top 14) 0)) (a.I 4).f cdv A outer s H E) (fun cls d _ H => E cls d H) := takes_of rfl rfl rfl rfl
    refine ⟨_, (pss_cons (ps_if (pt_not (pt_val (pe_callB call_isiT (by rfl) T.isinstance (by decide +kernel) (pa_cons (pv 1) (pa_cons (pe_tup (pa_cons (pe_glob (v := .ref (a.C 1)) rfl (T.kc 1 (by decide)).gl rfl) (pa_cons (pe_glob (v := .ref (a.C 2)) rfl (T.kc 2 (by decide)).gl rfl) (pa_cons (pe_glob (v := .ref (a.C 3)) rfl (T.kc 3 (by decide)).gl rfl) pa_nil)))) pa_nil)))))
      (pss_one (ps_bad T.bad rfl (hr.mono (by decide)) tk))
      pss_nil)
      (pss_cons (ps_if (PW.pt (pw_and (pt_cmpR op_notN (pv 2) pe_non (nomark _)) (pw_and1 (pt_not (pt_val (pe_call G_is_int_within (hr.mono (by first | decide | omega)) rfl T.is_int_within.mg T.is_int_within.kp T.is_int_within.b .nil pass0 (pa_cons (pv 2) (pa_cons pe_int (pa_cons pe_int pa_nil)))))))))
      (pss_one (ps_bad T.bad rfl (hr.mono (by decide)) tk))
      pss_nil)
      (pss_cons (ps_fld (pv 0) (pv 1) rfl)
      (pss_one (ps_fld (pv 0) (pv 2) rfl))))), ?_⟩
    walk_at "go"
    rename_i tp ntp
    have s1 : Same H (upd H tp (.tup [.ref (a.C 1), .ref (a.C 2), .ref (a.C 3)])) := same_new same_rfl ntp
    refine i_isT T [1, 2, 3] (by decide) (hy.same s1) upd_same ?_
    walk_at "go"
    refine i_itb (fun h1 => ?_) (fun h1 => ?_)
    · refine k.bad (if_neg ?_) s1
      intro z; rw [z] at h1; cases h1
    · have h1 : isK i [1, 2, 3] = true := by revert h1; cases isK i [1, 2, 3] <;> simp
      have e1 : itemBad i wv = if wv = .non ∨ withinV wv 1 3 = true then none else some ("width" : Str) := if_pos h1
      rw [e1] at k
      have fin : wv = .non ∨ withinV wv 1 3 = true → tSeq (sFld K (tVar 0) (tVar 1) "item") (sFld K (tVar 0) (tVar 2) "width") { nx := fun _ H' => Q .non H', rt := Q } (L2.start ["self", "item", "width"] [.ref x, y, wv]) (upd H tp (.tup [.ref (a.C 1), .ref (a.C 2), .ref (a.C 3)])) := fun e => by
        walk_at "go"
        refine i_sfld ?_
        walk_at "go"
        refine ⟨x, _, dx, [], rfl, s1 _ _ hx, (T.kc 4 (by decide)).cl, (T.kc 4 (by decide)).no _ (by decide), by decide, ?_⟩
        dsimp only
        refine i_sfld ?_
        walk_at "go"
        refine ⟨x, _, dx, [("item", y)], rfl, upd_same, (T.kc 4 (by decide)).cl, (T.kc 4 (by decide)).no _ (by decide), (by show (1 : Nat) < 1000; decide), ?_⟩
        exact k.1 (if_pos e) _ (Kept.upd (Kept.upd fun b o _ e => s1 b o e)) upd_same
      walk_at "go"
      refine ⟨rfl, _, rfl, ?_⟩
      refine i_itn (fun h2 => ?_) (fun h2 => ?_)
      · walk_at "go"
        refine ⟨wv, _, _, rfl, hw.same s1, ?_⟩
        walk_at "go"
        refine i_itb (fun h3 => ?_) (fun h3 => ?_)
        · refine k.bad (if_neg ?_) s1
          rintro (z | z)
          · exact h2 z
          · rw [z] at h3; cases h3
        · exact fin (.inr (by revert h3; cases withinV wv 1 3 <;> simp))
      · exact fin (.inl h2)
end
end Me
set_option maxHeartbeats 8000000
namespace Me
open PySem L2


theorem i_fld {K : PySem.W.Frag} {ta : TE} {f : Str} {σ : L2.St} {H : Hp} {Q : VK} (q : ta σ H fun x H1 => ∃ a C dx fs v, x = .ref a ∧ H1 a = some (.ins C dx fs) ∧ Cls K C ∧ NoAttr K C f ∧ fs.lookup f = some v ∧ Q v H1) : tFld K ta f σ H Q := q
theorem i_feq {K : PySem.W.Frag} {f : Str} {C p q dx dy : Addr} {fs gs : List (Str × V)} {v : V} {σ : L2.St} {H : Hp} {Q : VK} (h0 : σ[0]? = some (some (.ref p))) (h1 : σ[1]? = some (some (.ref q))) (hp : H p = some (.ins C dx fs)) (hq : H q = some (.ins C dy gs))
    (cl : Cls K C) (no : NoAttr K C f) (l1 : fs.lookup f = some v) (l2 : gs.lookup f = some v) (e : scal v v = true) (k : Q (.bl true) H) : tOp rEq (tFld K (tVar 0) f) (tFld K (tVar 1) f) σ H Q := by
  refine ⟨_, h0, p, C, dx, fs, v, rfl, hp, cl, no, l1, _, h1, q, C, dy, gs, v, rfl, hq, cl, no, l2, e, ?_⟩
  rw [decide_eq_true rfl]; exact k
def RNum (a : Ad) : Addr → Addr → Hp → Prop := fun p q H => ∃ dx dy l h wv, H p = some (.ins (a.C 1) dx [("low", l), ("high", h), ("width", wv)]) ∧ H q = some (.ins (a.C 1) dy [("low", l), ("high", h), ("width", wv)]) ∧ scal l l = true ∧ scal h h = true ∧ scal wv wv = true
def RBit (a : Ad) : Addr → Addr → Hp → Prop := fun p q H => ∃ dx dy y, H p = some (.ins (a.C 2) dx [("many", y)]) ∧ H q = some (.ins (a.C 2) dy [("many", y)]) ∧ scal y y = true
def RCal (a : Ad) : Addr → Addr → Hp → Prop := fun p q H => ∃ dx dy y, H p = some (.ins (a.C 3) dx [("name", y)]) ∧ H q = some (.ins (a.C 3) dy [("name", y)]) ∧ scal y y = true
/-- equal simple things -/
def DSim (a : Ad) : L2.Eqv := fun x y H => DIns (a.C 1) (RNum a) x y H ∨ DIns (a.C 2) (RBit a) x y H ∨ DIns (a.C 3) (RCal a) x y H
def RItm (a : Ad) : Addr → Addr → Hp → Prop := fun p q H => ∃ dx dy x y wv, H p = some (.ins (a.C 4) dx [("item", x), ("width", wv)]) ∧ H q = some (.ins (a.C 4) dy [("item", y), ("width", wv)]) ∧ DSim a x y H ∧ scal wv wv = true
section
variable {P : Program} {w : World} {K : PySem.W.Frag} {mg : Str → Option Value} {base : Heap} {a : Ad}
theorem ok_eq1 (T : Txt K mg a) : FnOk P w K mg base CX0 1 (a.E 1).f (a.E 1).fd ["self", "other"] (spEq (RNum a)) := by
  have sc : FnScope ["self", "other"] ["self", "other"] (defScope (inClass (top 11) 1)) := ⟨rfl, rfl, rfl, by decide +kernel, rfl, by decide +kernel, by decide +kernel⟩
  refine ok0 T.E1 sc (fun vs H Q E h => ?_) (fun cdv A outer s H vs Q E hr h => ?_)
  · obtain ⟨p, q, rfl, _⟩ := h
    rfl
  · obtain ⟨p, q, rfl, ⟨dx, dy, l, h, wv, hp, hq, e1, e2, e3⟩, k⟩ := h
    have kc := T.kc 1 (by decide)
    refine ⟨_, (pss_one (ps_ret (pe_and (pe_callB call_isi (by rfl) T.isinstance (by decide +kernel) (pa_cons (pv 1) (pa_cons (pe_glob (v := .ref (a.C 1)) rfl (T.kc 1 (by decide)).gl rfl) pa_nil))) (pe_and (pe_cmpR op_eq (pe_fld (pv 0) rfl) (pe_fld (pv 1) rfl) (nomark _)) (pe_and (pe_cmpR op_eq (pe_fld (pv 0) rfl) (pe_fld (pv 1) rfl) (nomark _)) (pe_one (pe_cmpR op_eq (pe_fld (pv 0) rfl) (pe_fld (pv 1) rfl) (nomark _)))))))), ?_⟩
    walk_at "go"
    refine i_isC T (by decide) (.ins (by decide) hq) ?_
    refine ⟨_, rfl, i_yes (decide_eq_true rfl) ?_⟩
    refine i_andV (i_feq rfl rfl hp hq kc.cl (kc.no _ (by decide)) rfl rfl e1 ⟨_, rfl, i_yes rfl ?_⟩)
    refine i_andV (i_feq rfl rfl hp hq kc.cl (kc.no _ (by decide)) rfl rfl e2 ⟨_, rfl, i_yes rfl ?_⟩)
    exact i_feq rfl rfl hp hq kc.cl (kc.no _ (by decide)) rfl rfl e3 (k _ Ext.rfl')
theorem ok_eq2 (T : Txt K mg a) : FnOk P w K mg base CX0 1 (a.E 2).f (a.E 2).fd ["self", "other"] (spEq (RBit a)) := by
  have sc : FnScope ["self", "other"] ["self", "other"] (defScope (inClass (top 12) 1)) := ⟨rfl, rfl, rfl, by decide +kernel, rfl, by decide +kernel, by decide +kernel⟩
  refine ok0 T.E2 sc (fun vs H Q E h => ?_) (fun cdv A outer s H vs Q E hr h => ?_)
  · obtain ⟨p, q, rfl, _⟩ := h
    rfl
  · obtain ⟨p, q, rfl, ⟨dx, dy, y, hp, hq, e1⟩, k⟩ := h
    have kc := T.kc 2 (by decide)
    refine ⟨_, (pss_one (ps_ret (pe_and (pe_callB call_isi (by rfl) T.isinstance (by decide +kernel) (pa_cons (pv 1) (pa_cons (pe_glob (v := .ref (a.C 2)) rfl (T.kc 2 (by decide)).gl rfl) pa_nil))) (pe_one (pe_cmpR op_eq (pe_fld (pv 0) rfl) (pe_fld (pv 1) rfl) (nomark _)))))), ?_⟩
    walk_at "go"
    refine i_isC T (by decide) (.ins (by decide) hq) ?_
    refine ⟨_, rfl, i_yes (decide_eq_true rfl) ?_⟩
    exact i_feq rfl rfl hp hq kc.cl (kc.no _ (by decide)) rfl rfl e1 (k _ Ext.rfl')
theorem ok_eq3 (T : Txt K mg a) : FnOk P w K mg base CX0 1 (a.E 3).f (a.E 3).fd ["self", "other"] (spEq (RCal a)) := by
  have sc : FnScope ["self", "other"] ["self", "other"] (defScope (inClass (top 13) 1)) := ⟨rfl, rfl, rfl, by decide +kernel, rfl, by decide +kernel, by decide +kernel⟩
  refine ok0 T.E3 sc (fun vs H Q E h => ?_) (fun cdv A outer s H vs Q E hr h => ?_)
  · obtain ⟨p, q, rfl, _⟩ := h
    rfl
  · obtain ⟨p, q, rfl, ⟨dx, dy, y, hp, hq, e1⟩, k⟩ := h
    have kc := T.kc 3 (by decide)
    refine ⟨_, (pss_one (ps_ret (pe_and (pe_callB call_isi (by rfl) T.isinstance (by decide +kernel) (pa_cons (pv 1) (pa_cons (pe_glob (v := .ref (a.C 3)) rfl (T.kc 3 (by decide)).gl rfl) pa_nil))) (pe_one (pe_cmpR op_eq (pe_fld (pv 0) rfl) (pe_fld (pv 1) rfl) (nomark _)))))), ?_⟩
    walk_at "go"
    refine i_isC T (by decide) (.ins (by decide) hq) ?_
    refine ⟨_, rfl, i_yes (decide_eq_true rfl) ?_⟩
    exact i_feq rfl rfl hp hq kc.cl (kc.no _ (by decide)) rfl rfl e1 (k _ Ext.rfl')
theorem rc_sim {X : Cx} (T : Txt X.K X.mg a) : RcG X 1 (DSim a) := by
  intro A pins s σ H x y u v sb I rx ry d
  rcases d with d | d | d
  · exact rcG_ins (ok_eq1 T) (T.kc 1 (by decide)).eqA (T.kc 1 (by decide)).eqF T.Eb1 pass0 A pins s σ H x y u v sb I rx ry d
  · exact rcG_ins (ok_eq2 T) (T.kc 2 (by decide)).eqA (T.kc 2 (by decide)).eqF T.Eb2 pass0 A pins s σ H x y u v sb I rx ry d
  · exact rcG_ins (ok_eq3 T) (T.kc 3 (by decide)).eqA (T.kc 3 (by decide)).eqF T.Eb3 pass0 A pins s σ H x y u v sb I rx ry d
theorem ok_eq4 (T : Txt K mg a) : FnOk P w K mg base CX0 2 (a.E 4).f (a.E 4).fd ["self", "other"] (spEq (RItm a)) := by
  have sc : FnScope ["self", "other"] ["self", "other"] (defScope (inClass (top 14) 1)) := ⟨rfl, rfl, rfl, by decide +kernel, rfl, by decide +kernel, by decide +kernel⟩
  refine ok0 T.E4 sc (fun vs H Q E h => ?_) (fun cdv A outer s H vs Q E hr h => ?_)
  · obtain ⟨p, q, rfl, _⟩ := h
    rfl
  · obtain ⟨p, q, rfl, ⟨dx, dy, x, y, wv, hp, hq, d, e1⟩, k⟩ := h
    have kc := T.kc 4 (by decide)
    refine ⟨_, (pss_one (ps_ret (pe_and (pe_callB call_isi (by rfl) T.isinstance (by decide +kernel) (pa_cons (pv 1) (pa_cons (pe_glob (v := .ref (a.C 4)) rfl (T.kc 4 (by decide)).gl rfl) pa_nil))) (pe_and (pe_cmpR (op_eqG (rc_sim T) (hr.mono (by decide))) (pe_fld (pv 0) rfl) (pe_fld (pv 1) rfl) (nomark _)) (pe_one (pe_cmpR op_eq (pe_fld (pv 0) rfl) (pe_fld (pv 1) rfl) (nomark _))))))), ?_⟩
    walk_at "go"
    refine i_isC T (by decide) (.ins (by decide) hq) ?_
    refine ⟨_, rfl, i_yes (decide_eq_true rfl) ?_⟩
    refine i_andV ⟨_, rfl, p, _, _, _, x, rfl, hp, kc.cl, kc.no _ (by decide), rfl, _, rfl, q, _, _, _, y, rfl, hq, kc.cl, kc.no _ (by decide), rfl, d, fun H1 x1 => ⟨_, rfl, i_yes rfl ?_⟩⟩
    exact i_feq rfl rfl (x1 _ _ hp) (x1 _ _ hq) kc.cl (kc.no _ (by decide)) rfl rfl e1 (k _ x1)
theorem rc_itm {X : Cx} (T : Txt X.K X.mg a) : RcG X 2 (DIns (a.C 4) (RItm a)) := rcG_ins (ok_eq4 T) (T.kc 4 (by decide)).eqA (T.kc 4 (by decide)).eqF T.Eb4 pass0
end
end Me
set_option maxHeartbeats 8000000
namespace Me
open PySem L2


/-- what an exception that leaves a call in a try meets -/
def AW (n : Nat) (W : WX) : XK := fun cls d H => ∀ σ : L2.St, σ.length = n → W cls d σ H
def tsBad (bad : Addr) (i : Nat) : Addr → Value → Option Addr → TS := fun e cls d => tRet (tTup (tCons (tC (.str "refused")) (tCons (tXf e cls d bad "part" (tVar i)) tNil)))
theorem Kept.same {H H' : Hp} {x dx : Addr} {o o' : HO} (k : Kept (L2.upd (L2.upd H dx o) x o') x H') (nx : H x = none) (nd : H dx = none) : Same H H' := fun b u e => by
  have n1 := ne_of_none e nx
  have n2 := ne_of_none e nd
  refine k b u n1 ?_
  rw [upd_ne n1, upd_ne n2]; exact e
theorem same2 {H : Hp} {x dx : Addr} {o o' : HO} (nx : H x = none) (nd : H dx = none) : Same H (upd (upd H dx o) x o') := fun b u e => by
  rw [upd_ne (ne_of_none e nx), upd_ne (ne_of_none e nd)]; exact e
theorem Same.trans {H H1 H2 : Hp} (a : Same H H1) (b : Same H1 H2) : Same H H2 := fun c o e => b c o (a c o e)
theorem caught {K : PySem.W.Frag} {mg : Str → Option Value} {bad : Addr} {badI : DA} (B : BadT K mg bad badI) {i n : Nat} (hi : i < n) {D : Ends} {z : Str} {d : Addr} {H' : Hp} (hd : H' d = some (.xd [("part", .str z)]))
    (q : ∀ t, H' t = none → D.rt (.ref t) (upd H' t (.tup [.str "refused", .str z]))) : AW n (wAs K (.ref bad) i (tsBad bad i) (fun _ _ _ _ => False) D) (.ref bad) (some d) H' := by
  intro σ hl
  refine ⟨true, B.ex, fun _ e0 ne => ?_, fun z => Bool.noConfusion z⟩
  refine ⟨_, by rw [List.getElem?_set_self (by omega)], rfl, rfl, d, _, .str z, rfl, hd, rfl, ?_⟩
  refine ⟨by show (2 : Nat) ≤ 16777216; decide, fun t nt => ?_⟩
  exact q t nt
end Me
set_option maxHeartbeats 8000000
namespace Me
open PySem L2


theorem scal_wid {n : Int} {v : V} (e : widBad n v = none) : scal v v = true := by
  cases v with
  | non => rfl
  | int i => rfl
  | _ => (unfold widBad at e; cases e)
theorem scal_num {l h wv : V} (e : numBad l h wv = none) : scal l l = true ∧ scal h h = true ∧ scal wv wv = true := by
  cases l with
  | int l =>
    cases h with
    | int h =>
      refine ⟨rfl, rfl, ?_⟩
      have e : (if 2 ≤ h - l + 1 ∧ h - l + 1 ≤ (2 : Int) ^ Int.toNat 60 then widBad (h - l + 1) wv else some ("high" : Str)) = none := e
      by_cases q : 2 ≤ h - l + 1 ∧ h - l + 1 ≤ (2 : Int) ^ Int.toNat 60
      · rw [if_pos q] at e; exact scal_wid e
      · rw [if_neg q] at e; cases e
    | _ => cases e
  | _ => cases e
theorem i_make {C : Addr} {sp : Sp} {dvs : List V} {E : XK} {t : TA} {σ : L2.St} {H : Hp} {Q : VK} (q : t σ H fun vs H1 => ∀ x dx, H1 x = none → H1 dx = none → dx ≠ x → sp (.ref x :: (vs ++ dvs)) (upd (upd H1 dx (.own x)) x (.ins C dx [])) (fun v H2 => v = .non ∧ Q (.ref x) H2) E) : tMake C sp dvs E t σ H Q := q
end Me
set_option maxHeartbeats 8000000
namespace Me
open PySem L2


/-- values that are the same, to a depth -/
def Sm (H : Hp) : Nat → V → V → Prop
  | 0, x, y => x = y ∧ flatV x = true
  | n + 1, x, y => (x = y ∧ flatV x = true) ∨ ∃ p q xs ys, x = .ref p ∧ y = .ref q ∧ ((H p = some (.tup xs) ∧ H q = some (.tup ys)) ∨ (H p = some (.lst xs) ∧ H q = some (.lst ys))) ∧ xs.length = ys.length ∧ xs.length ≤ 1000 ∧
    ∀ (i : Nat) x y, xs[i]? = some x → ys[i]? = some y → Sm H n x y
end Me
local macro_rules | `(tactic| walk_at "go3") => `(tactic| repeat (first | walk_at "go1" | (with_reducible refine And.intro (a := L2.V.non = L2.V.non) rfl ?_) | ((with_reducible refine' Me.i_yes ?_ ?_); (first | rfl | exact decide_eq_true rfl)) | ((with_reducible refine' Me.i_no ?_ ?_); (first | rfl | (simp; done)))))
namespace Me
open PySem L2
section
variable {P : Program} {w : World} {K : PySem.W.Frag} {mg : Str → Option Value} {base : Heap} {a : Ad}
def spSame (n : Nat) : Sp := fun vs H Q _ => ∃ x y, vs = [x, y] ∧ Sm H n x y ∧ Q (.bl true) H
theorem Sm.ways {H : Hp} {n : Nat} {x y : V} (h : Sm H n x y) : (x = y ∧ flatV x = true) ∨ ∃ m, n = m + 1 ∧ ∃ p q xs ys, x = .ref p ∧ y = .ref q ∧ ((H p = some (.tup xs) ∧ H q = some (.tup ys)) ∨ (H p = some (.lst xs) ∧ H q = some (.lst ys))) ∧ xs.length = ys.length ∧ xs.length ≤ 1000 ∧
    ∀ (i : Nat) x y, xs[i]? = some x → ys[i]? = some y → Sm H m x y := by
  cases n with
  | zero => exact .inl h
  | succ m =>
    rcases h with h | ⟨p, q, xs, ys, h⟩
    · exact .inl h
    · exact .inr ⟨m, rfl, p, q, xs, ys, h⟩
theorem same_step (T : Txt K mg a) (n : Nat) {sp : Sp} (G__law_same : FnOk P w K mg base CX0 (n + 1) a._law_same.f a._law_same.fd ["_law_told_here", "_law_due_here"] sp) (hsp : ∀ m, n = m + 1 → ∀ vs H Q E, spSame m vs H Q E → sp vs H Q E) :
    FnOk P w K mg base CX0 (n + 2) a._law_same.f a._law_same.fd ["_law_told_here", "_law_due_here"] (spSame n) := by
    have G__law_is_int : FnOk P w K mg base CX0 1 a._law_is_int.f a._law_is_int.fd ["_law_told_here"] spIsInt := ok_law_is_int T
    have sc : FnScope ["_law_told_here", "_law_due_here", "_law_k"] ["_law_told_here", "_law_due_here"] (defScope (top 30)) := ⟨rfl, rfl, rfl, by decide +kernel, rfl, by decide +kernel, by decide +kernel⟩
    refine T._law_same.ok sc (fun vs H Q E h => ?_) (fun cdv A outer s H vs Q E hr h => ?_)
    · obtain ⟨x, y, rfl, _⟩ := h
      rfl
    · obtain ⟨x, y, rfl, he, k⟩ := h
      refine ⟨_, (pss_cons (ps_if (pt_cmpR op_isN (pv 1) pe_non (nomark _))
      (pss_one (ps_ret (pe_cmpR op_isN (pv 0) pe_non (nomark _))))
      pss_nil)
      (pss_cons (ps_if (pt_val (pe_callB call_isi (by rfl) T.isinstance (by decide +kernel) (pa_cons (pv 1) (pa_cons (pe_bltn (v := .ty "bool") (by rfl) T.bool (by decide +kernel) rfl) pa_nil))))
      (pss_one (ps_ret (pe_and (pe_callB call_isi (by rfl) T.isinstance (by decide +kernel) (pa_cons (pv 0) (pa_cons (pe_bltn (v := .ty "bool") (by rfl) T.bool (by decide +kernel) rfl) pa_nil))) (pe_one (pe_cmpR op_eq (pv 0) (pv 1) (nomark _))))))
      pss_nil)
      (pss_cons (ps_if (pt_val (pe_callB call_isi (by rfl) T.isinstance (by decide +kernel) (pa_cons (pv 1) (pa_cons (pe_bltn (v := .ty "int") (by rfl) T.int (by decide +kernel) rfl) pa_nil))))
      (pss_one (ps_ret (pe_and (pe_call G__law_is_int (hr.mono (by first | decide | omega)) rfl T._law_is_int.mg T._law_is_int.kp T._law_is_int.b .nil pass0 (pa_cons (pv 0) pa_nil)) (pe_one (pe_cmpR op_eq (pv 0) (pv 1) (nomark _))))))
      pss_nil)
      (pss_cons (ps_if (pt_val (pe_callB call_isi (by rfl) T.isinstance (by decide +kernel) (pa_cons (pv 1) (pa_cons (pe_bltn (v := .ty "str") (by rfl) T.str (by decide +kernel) rfl) pa_nil))))
      (pss_one (ps_ret (pe_and (pe_callB call_isi (by rfl) T.isinstance (by decide +kernel) (pa_cons (pv 0) (pa_cons (pe_bltn (v := .ty "str") (by rfl) T.str (by decide +kernel) rfl) pa_nil))) (pe_one (pe_cmpR op_eq (pv 0) (pv 1) (nomark _))))))
      pss_nil)
      (pss_cons (ps_if (pt_val (pe_callB call_isi (by rfl) T.isinstance (by decide +kernel) (pa_cons (pv 1) (pa_cons (pe_bltn (v := .ty "dict") (by rfl) T.dict (by decide +kernel) rfl) pa_nil))))
      (pss_one ps_never)
      pss_nil)
      (pss_cons (ps_if (PW.pt (pw_and (pt_val (pe_callB call_isi (by rfl) T.isinstance (by decide +kernel) (pa_cons (pv 1) (pa_cons (pe_bltn (v := .ty "list") (by rfl) T.list (by decide +kernel) rfl) pa_nil)))) (pw_and1 (pt_not (pt_val (pe_callB call_isi (by rfl) T.isinstance (by decide +kernel) (pa_cons (pv 0) (pa_cons (pe_bltn (v := .ty "list") (by rfl) T.list (by decide +kernel) rfl) pa_nil))))))))
      (pss_one (ps_ret pe_bl))
      pss_nil)
      (pss_cons (ps_if (PW.pt (pw_and (pt_val (pe_callB call_isi (by rfl) T.isinstance (by decide +kernel) (pa_cons (pv 1) (pa_cons (pe_bltn (v := .ty "tuple") (by rfl) T.tuple (by decide +kernel) rfl) pa_nil)))) (pw_and1 (pt_not (pt_val (pe_callB call_isi (by rfl) T.isinstance (by decide +kernel) (pa_cons (pv 0) (pa_cons (pe_bltn (v := .ty "tuple") (by rfl) T.tuple (by decide +kernel) rfl) pa_nil))))))))
      (pss_one (ps_ret pe_bl))
      pss_nil)
      (pss_cons (ps_if (pt_cmpR op_ne (pe_callB call_len_seq (by rfl) T.len PySem.boot_len (pa_cons (pv 0) pa_nil)) (pe_callB call_len_seq (by rfl) T.len PySem.boot_len (pa_cons (pv 1) pa_nil)) (nomark _))
      (pss_one (ps_ret pe_bl))
      pss_nil)
      (pss_cons (ps_for PassesOwn.never rfl (pi_range1 rfl T.range (pa_cons (pe_callB call_len_seq (by rfl) T.len PySem.boot_len (pa_cons (pv 1) pa_nil)) pa_nil)) (pg_name (i := 2) sc.nd rfl (by first | exact Or.inl rfl | exact Or.inr rfl))
      (pss_one (ps_if (pt_not (pt_val (pe_call G__law_same (hr.mono (by first | decide | omega)) rfl T._law_same.mg T._law_same.kp T._law_same.b .nil pass0 (pa_cons (pe_ix ix_seq (pv 0) (pv 2) (fun _ _ => rfl)) (pa_cons (pe_ix ix_seq (pv 1) (pv 2) (fun _ _ => rfl)) pa_nil)))))
      (pss_one (ps_ret pe_bl))
      pss_nil)))
      (pss_one (ps_ret pe_bl))))))))))), ?_⟩
      rcases he.ways with ⟨rfl, fx⟩ | ⟨m, hm, p, q, xs, ys, rfl, rfl, hpq, hl, hs, hx⟩
      · cases x with
        | non =>
          walk_at "go3"
          exact k
        | bl b =>
          walk_at "go3"
          rw [decide_eq_true rfl]
          exact k
        | int i =>
          walk_at "go3"
          refine ⟨_, rfl, .int i, ?_⟩
          walk_at "go3"
          rw [decide_eq_true rfl]
          exact k
        | str z =>
          walk_at "go3"
          rw [decide_eq_true rfl]
          exact k
        | _ => cases fx
      · have hl2 : (V.int (xs.length : Int)) = V.int (ys.length : Int) := by rw [hl]
        have at_ : ∀ {zs : List V} {i : Nat}, i < zs.length → ∃ v, zs[i]? = some v := fun {zs i} h => ⟨zs[i], List.getElem?_eq_getElem h⟩
        have fin : tSeq (tFor (iRng1 (tCons (tCB (fun xs H_1 Q => ∃ p ys, xs = [V.ref p] ∧ (SqL K H_1 p ys ∨ SqT K H_1 p ys) ∧ Q (V.int ys.length) H_1) (tCons (tVar 1) tNil)) tNil)) (gName 2)
            (tIfS (tNot (tB (tCall sp [] E0 (tCons (tOp (rIx K) (tVar 0) (tVar 2)) (tCons (tOp (rIx K) (tVar 1) (tVar 2)) tNil))))) (tRet (tC (V.bl false))) tNext)) (tRet (tC (V.bl true)))
            { nx := fun _ H' => Q .non H', rt := Q } (L2.start ["_law_told_here", "_law_due_here", "_law_k"] [.ref p, .ref q]) H := by
          have sq : SqL K H q ys ∨ SqT K H q ys := by
            rcases hpq with ⟨_, hq⟩ | ⟨_, hq⟩
            · exact .inr (SqT.of hq)
            · exact .inl (SqL.of hq)
          refine ⟨_, rfl, q, ys, rfl, sq, (ys.length : Int), rfl, by omega, by omega, for_range (n := ys.length) (fun _ σ H' => H' = H ∧ ∃ v, σ = [some (.ref p), some (.ref q), v]) ⟨rfl, none, rfl⟩ ?_ ?_⟩
          · rintro i σ H1 hi ⟨rfl, v, rfl⟩
            obtain ⟨y, hy⟩ := at_ hi
            obtain ⟨x, hx'⟩ := at_ (zs := xs) (i := i) (by omega)
            have go2 : ∀ (R : VK), (∀ v, v = x → R v H1) → rIx K (.ref p) (.int (0 + (i : Int))) H1 R := fun R k => by
              rw [Int.zero_add]
              rcases hpq with ⟨hp, _⟩ | ⟨hp, _⟩
              · exact .inr (.inl ⟨p, xs, i, x, rfl, rfl, SqT.of hp, atI_nat hx', k x rfl⟩)
              · exact .inl ⟨p, xs, i, x, rfl, rfl, SqL.of hp, atI_nat hx', k x rfl⟩
            have go4 : ∀ (R : VK), (∀ v, v = y → R v H1) → rIx K (.ref q) (.int (0 + (i : Int))) H1 R := fun R k => by
              rw [Int.zero_add]
              rcases hpq with ⟨_, hq⟩ | ⟨_, hq⟩
              · exact .inr (.inl ⟨q, ys, i, y, rfl, rfl, SqT.of hq, atI_nat hy, k y rfl⟩)
              · exact .inl ⟨q, ys, i, y, rfl, rfl, SqL.of hq, atI_nat hy, k y rfl⟩
            refine ⟨_, rfl, _, rfl, go2 _ fun x' ex => ⟨_, rfl, _, rfl, go4 _ fun y' ey => ?_⟩⟩
            subst ex
            subst ey
            refine hsp m hm _ _ _ _ ⟨_, _, rfl, hx i _ _ hx' hy, true, rfl, ?_⟩
            refine i_no rfl ?_
            exact ⟨rfl, _, rfl⟩
          · rintro σ H1 ⟨rfl, v, rfl⟩
            exact k
        rcases hpq with ⟨hp, hq⟩ | ⟨hp, hq⟩
        · walk_at "go3"
          refine i_no (by rw [decide_eq_true hl2]; rfl) ?_
          exact fin
        · walk_at "go3"
          refine i_no (by rw [decide_eq_true hl2]; rfl) ?_
          exact fin
theorem ok_same (T : Txt K mg a) : ∀ n, FnOk P w K mg base CX0 (n + 2) a._law_same.f a._law_same.fd ["_law_told_here", "_law_due_here"] (spSame n)
  | 0 => same_step T 0 (sp := fun _ _ _ _ => False) ⟨fun _ _ _ _ h => h.elim, fun _ _ _ _ _ _ _ _ _ _ _ _ _ h => h.elim⟩ fun _ h => by omega
  | n + 1 => same_step T (n + 1) (ok_same T n) fun m h vs H Q E q => by
    have e : m = n := by omega
    subst e
    exact q
end
end Me
set_option maxHeartbeats 8000000
namespace Me
open PySem L2


def bitB (c : Nat) : Bool := decide (c = 48) || decide (c = 49)
def wordV : V → Bool
  | .str z => (decide (1 ≤ z.length) && decide (z.length ≤ 8)) && z.cps.toList.all bitB
  | _ => false
def bitsV : V → Bool
  | .str z => z.cps.toList.all bitB
  | _ => false
theorem goes01 (c : Nat) : (Str.ofString "01").cps.contains c = bitB c := by
  have e : (Str.ofString "01").cps = #[48, 49] := by decide +kernel
  rw [e]
  unfold bitB
  by_cases h : c = 48
  · subst h; simp
  · by_cases h2 : c = 49
    · subst h2; simp
    · rw [decide_eq_false h, decide_eq_false h2]
      simp [h, h2]
theorem strip01 (z : Str) : decide (V.str (Txt.stripChars z "01") = V.str "") = z.cps.toList.all bitB := by
  have eg : (Str.ofString "01").cps.contains = bitB := funext goes01
  have e1 : Txt.stripChars z "01" = Builtin.Str.strSub z (stripLo bitB true z) (stripHi bitB true z (stripLo bitB true z)) := by
    rw [← eg]; exact PyProof.Rows.stripBy_eq _ _ _ _
  obtain ⟨l1, l2, l3⟩ := PyProof.Rows.lo_facts bitB z
  obtain ⟨h1, h2, h3, h4⟩ := PyProof.Rows.hi_facts bitB z _ l1
  have len : (Txt.stripChars z "01").length = stripHi bitB true z (stripLo bitB true z) - stripLo bitB true z := by rw [e1]; exact size_strSub _ _ _ h2
  have at_ : ∀ k, k < z.length → (h : k < z.cps.toList.length) → z.cps.getD k 0 = z.cps.toList[k] := fun k hk h => by
    rw [← PyProof.Rows.getD_list]
    rw [List.getD, List.getElem?_eq_getElem h]; rfl
  have ln : z.cps.toList.length = z.length := by simp [Str.length]
  by_cases h : z.cps.toList.all bitB = true
  · rw [h]
    refine decide_eq_true ?_
    have all : ∀ k, k < z.length → bitB (z.cps.getD k 0) = true := fun k hk => by
      rw [at_ k hk (by omega)]
      exact List.all_eq_true.mp h _ (List.getElem_mem _)
    have lo : stripLo bitB true z = z.length := by
      rcases l3 with l3 | l3
      · exact l3
      · by_cases q : stripLo bitB true z < z.length
        · rw [all _ q] at l3; cases l3
        · omega
    have z0 : (Txt.stripChars z "01").length = 0 := by omega
    congr 1
    generalize Txt.stripChars z "01" = u at z0
    cases u with
    | mk c =>
      have : c = #[] := Array.eq_empty_of_size_eq_zero z0
      rw [this]; rfl
  · rw [Bool.eq_false_iff.mpr h]
    refine decide_eq_false fun q => h ?_
    have q := V.str.inj q
    have z0 : (Txt.stripChars z "01").length = 0 := by rw [q]; rfl
    refine List.all_eq_true.mpr fun c hc => ?_
    obtain ⟨k, hk, rfl⟩ := List.mem_iff_getElem.mp hc
    rw [← at_ k (by omega) hk]
    by_cases r : k < stripLo bitB true z
    · exact l2 k r
    · exact h3 k (by omega) (by omega)
def chkBad (w n : V) : Option Str := if wordV w = true then (if nameV n = true then none else some ("name" : Str)) else some ("word" : Str)
def Sh (v : V) : Prop := ∀ z, v = .str z → z.length ≤ 100
section
variable {P : Program} {w : World} {K : PySem.W.Frag} {mg : Str → Option Value} {base : Heap} {a : Ad}
def spBits : Sp := fun vs H Q _ => ∃ x, vs = [x] ∧ Th H x ∧ Sh x ∧ Q (.bl (bitsV x)) H
theorem ok_bits (T : Txt K mg a) : FnOk P w K mg base CX0 1 a.is_bits.f a.is_bits.fd ["thing"] spBits := by
  have sc : FnScope ["thing"] ["thing"] (defScope (top 4)) := ⟨rfl, rfl, rfl, by decide +kernel, rfl, by decide +kernel, by decide +kernel⟩
  refine T.is_bits.ok sc (fun vs H Q E h => ?_) (fun cdv A outer s H vs Q E hr h => ?_)
  · obtain ⟨x, rfl, _⟩ := h
    rfl
  · obtain ⟨x, rfl, hx, hz, k⟩ := h
    refine ⟨_, (pss_one (ps_ret (pe_and (pe_callB call_isi (by rfl) T.isinstance (by decide +kernel) (pa_cons (pv 0) (pa_cons (pe_bltn (v := .ty "str") (by rfl) T.str (by decide +kernel) rfl) pa_nil))) (pe_one (pe_cmpR op_eq (pe_m1 F.slot_str_strip F.type_str_strip mt_stripChars (pv 0) pe_str rfl rfl rfl) pe_str (nomark _)))))), ?_⟩
    cases hx with
    | str z =>
      walk_at "go"
      refine i_m1 ?_
      walk_at "go"
      refine ⟨⟨_, rfl⟩, _, _, rfl, rfl, Nat.le_trans (hz z rfl) (by decide), ?_⟩
      walk_at "go"
      have e := strip01 z
      have k : Q (V.bl (z.cps.toList.all bitB)) H := k
      rw [← e] at k
      exact k
    | _ => (walk_at "go"; exact k)
def spWd (hp : Prop) : Sp := fun vs H Q _ => ∃ x, vs = [x] ∧ Th H x ∧ Sh x ∧ Q (.bl (wordV x)) H
theorem ok_wd (T : Txt K mg a) : FnOk P w K mg base CX0 2 a.is_word.f a.is_word.fd ["thing"] (spWd True) := by
  have G_is_bits : FnOk P w K mg base CX0 1 a.is_bits.f a.is_bits.fd ["thing"] spBits := ok_bits T
  have sc : FnScope ["thing"] ["thing"] (defScope (top 5)) := ⟨rfl, rfl, rfl, by decide +kernel, rfl, by decide +kernel, by decide +kernel⟩
  refine T.is_word.ok sc (fun vs H Q E h => ?_) (fun cdv A outer s H vs Q E hr h => ?_)
  · obtain ⟨x, rfl, _⟩ := h
    rfl
  · obtain ⟨x, rfl, hx, hz, k⟩ := h
    refine ⟨_, (pss_one (ps_ret (pe_and (pe_call G_is_bits (hr.mono (by first | decide | omega)) rfl T.is_bits.mg T.is_bits.kp T.is_bits.b .nil pass0 (pa_cons (pv 0) pa_nil)) (pe_one (pe_chain op_le op_le pe_int (pe_callB call_len_str (by rfl) T.len PySem.boot_len (pa_cons (pv 0) pa_nil)) pe_int))))), ?_⟩
    walk_at "go"
    refine ⟨x, rfl, hx, hz, ?_⟩
    cases hx with
    | str z =>
      refine ⟨_, rfl, ?_⟩
      have kk : Q (V.bl ((decide (1 ≤ z.length) && decide (z.length ≤ 8)) && z.cps.toList.all bitB)) H := k
      refine i_itb (fun h => ?_) (fun h => ?_)
      · have h : z.cps.toList.all bitB = true := h
        rw [h, Bool.and_true] at kk
        refine i_chain ?_
        walk_at "go"
        refine ⟨z, rfl, Nat.le_trans (hz z rfl) (by decide), ?_⟩
        walk_at "go"
        refine i_itd (fun h1 => ?_) (fun h1 => ?_)
        · walk_at "go"
          rw [decide_eq_true (show 1 ≤ z.length by omega), Bool.true_and] at kk
          have e : decide ((z.length : Int) ≤ 8) = decide (z.length ≤ 8) := by
            by_cases q : z.length ≤ 8
            · rw [decide_eq_true q]; exact decide_eq_true (by omega)
            · rw [decide_eq_false q]; exact decide_eq_false (by omega)
          rw [e]
          exact kk
        · rw [decide_eq_false (show ¬ 1 ≤ z.length by omega), Bool.false_and] at kk
          exact kk
      · have h : z.cps.toList.all bitB = false := h
        rw [h, Bool.and_false] at kk
        exact kk
    | _ => exact ⟨_, rfl, i_no rfl k⟩
def nwords (z : Str) (i : Nat) : List V := ((z.cps.toList.take i).filter fun c => !bitB c).map fun c => V.str ⟨#[c]⟩
theorem nwords_step {H : Hp} {D : Addr} {z : Str} {i c : Nat} (hz : z.length ≤ 100) (hc : z.cps[i]? = some c) (hb : bitB c = false) :
    ∃ acc, upd H D (.lst (nwords z i)) D = some (.lst acc) ∧ acc.length < sizeLine ∧ upd (upd H D (.lst (nwords z i))) D (.lst (acc ++ [V.str ⟨#[c]⟩])) = upd H D (.lst (nwords z (i + 1))) := by
  refine ⟨nwords z i, upd_same, ?_, ?_⟩
  · have e : (nwords z i).length ≤ z.length := by
      show (((z.cps.toList.take i).filter _).map _).length ≤ z.cps.size
      rw [List.length_map]
      refine Nat.le_trans (List.length_filter_le _ _) ?_
      rw [List.length_take, Array.length_toList]
      omega
    exact Nat.lt_of_le_of_lt (Nat.le_trans e hz) (by decide)
  · rw [upd_upd]
    have e : nwords z (i + 1) = nwords z i ++ [V.str ⟨#[c]⟩] := by
      show ((z.cps.toList.take (i + 1)).filter _).map _ = _
      rw [take_cps hc, List.filter_append, List.map_append, List.filter_cons_of_pos (by rw [hb]; rfl)]; rfl
    rw [e]
theorem nwords_skip {H : Hp} {D : Addr} {z : Str} {i c : Nat} (hc : z.cps[i]? = some c) (hb : bitB c = true) : upd H D (.lst (nwords z i)) = upd H D (.lst (nwords z (i + 1))) := by
  have e : nwords z (i + 1) = nwords z i := by
    show ((z.cps.toList.take (i + 1)).filter _).map _ = _
    rw [take_cps hc, List.filter_append, List.map_append, List.filter_cons_of_neg (by rw [hb]; simp)]
    exact List.append_nil _
  rw [e]
theorem nwords_all {z : Str} : decide (V.int ((nwords z z.cps.size).length : Int) = V.int 0) = z.cps.toList.all bitB := by
  have e : nwords z z.cps.size = (z.cps.toList.filter fun c => !bitB c).map fun c => V.str ⟨#[c]⟩ := by
    show ((z.cps.toList.take _).filter _).map _ = _
    rw [List.take_of_length_le (by rw [Array.length_toList]; exact Nat.le_refl _)]
  rw [e, List.length_map]
  by_cases h : z.cps.toList.all bitB = true
  · rw [h, List.filter_eq_nil_iff.mpr (fun c m => by rw [List.all_eq_true.mp h c m]; simp)]
    exact decide_eq_true rfl
  · rw [Bool.eq_false_iff.mpr h]
    refine decide_eq_false fun q => h ?_
    have q := V.int.inj q
    have q : (z.cps.toList.filter fun c => !bitB c).length = 0 := by omega
    have q := List.filter_eq_nil_iff.mp (List.length_eq_zero_iff.mp q)
    refine List.all_eq_true.mpr fun c m => ?_
    have := q c m
    revert this
    cases bitB c <;> simp
theorem notin01 (c : Nat) : (!decide (c ∈ (Str.ofString "01").cps.toList)) = !bitB c := by
  congr 1
  rw [← goes01]
  by_cases h : c ∈ (Str.ofString "01").cps.toList
  · rw [decide_eq_true h]; symm; rw [Array.contains_iff_mem]; exact Array.mem_toList_iff.mp h
  · rw [decide_eq_false h]; symm
    refine Bool.eq_false_iff.mpr fun q => h ?_
    exact Array.mem_toList_iff.mpr (Array.contains_iff_mem.mp q)
theorem ok_law_is_word (T : Txt K mg a) : FnOk P w K mg base CX0 1 a._law_is_word.f a._law_is_word.fd ["_law_thing_here"] (fun vs H Q _ => ∃ x, vs = [x] ∧ Th H x ∧ Sh x ∧ ∀ H', Same H H' → Q (.bl (wordV x)) H') := by
  have sc : FnScope ["_law_thing_here", "_law_sign"] ["_law_thing_here"] (defScope (top 38)) := ⟨rfl, rfl, rfl, by decide +kernel, rfl, by decide +kernel, by decide +kernel⟩
  refine T._law_is_word.ok sc (fun vs H Q E h => ?_) (fun cdv A outer s H vs Q E hr h => ?_)
  · obtain ⟨x, rfl, _⟩ := h; rfl
  · obtain ⟨x, rfl, hx, hz, k⟩ := h
    refine ⟨_, (pss_cons (ps_if (PW.pt (pw_or (pt_not (pt_val (pe_callB call_isi (by rfl) T.isinstance (by decide +kernel) (pa_cons (pv 0) (pa_cons (pe_bltn (v := .ty "str") (by rfl) T.str (by decide +kernel) rfl) pa_nil))))) (pw_or (pt_cmpR op_lt (pe_callB call_len_str (by rfl) T.len PySem.boot_len (pa_cons (pv 0) pa_nil)) pe_int (nomark _)) (pw_or1 (pt_cmpR op_gt (pe_callB call_len_str (by rfl) T.len PySem.boot_len (pa_cons (pv 0) pa_nil)) pe_int (nomark _))))))
      (pss_one (ps_ret pe_bl))
      pss_nil)
      (pss_one (ps_ret (pe_cmpR op_eq (pe_callB call_len_seq (by rfl) T.len PySem.boot_len (pa_cons (pe_lc (own := [("_law_sign", 1)]) (g := gName 1) (by rfl) sc.nd (pi_str (pv 0)) (blkOk_by (own := [("_law_sign", 1)]) (N := ["_law_thing_here", "_law_sign"]) (sc := defScope (top 38)) (by decide +kernel)) (fun _ _ _ _ _ => pg_name (i := 1) sc.nd rfl (Or.inl rfl)) (fun _ _ _ _ _ => (pts_one (pt_cmpR op_notIn_sign (pv 1) pe_str (by rfl)))) (fun _ _ _ _ _ => (by exact (pv 1)))) pa_nil)) pe_int (nomark _))))), ?_⟩
    have k0 := k H fun _ _ e => e
    cases hx with
    | str z =>
      have hz := hz z rfl
      walk_at "go"
      refine i_no rfl ?_
      walk_at "go"
      refine ⟨z, rfl, Nat.le_trans hz (by decide), ?_⟩
      have bad : (¬ ((1:Int) ≤ (z.length : Int)) ∨ ¬ ((z.length : Int) ≤ 8)) → wordV (.str z) = false := fun h => by
        show ((decide (1 ≤ z.length) && decide (z.length ≤ 8)) && _) = false
        rcases h with h | h
        · rw [decide_eq_false (by omega)]; rfl
        · rw [decide_eq_false (p := z.length ≤ 8) (by omega), Bool.and_false]; rfl
      walk_at "go"
      refine i_itd (fun h1 => ?_) (fun h1 => ?_)
      · rw [bad (.inl (by omega))] at k0; walk_at "go"; exact k0
      · walk_at "go"
        refine ⟨z, rfl, Nat.le_trans hz (by decide), ?_⟩
        walk_at "go"
        refine i_itd (fun h2 => ?_) (fun h2 => ?_)
        · rw [bad (.inr (by omega))] at k0; walk_at "go"; exact k0
        · walk_at "go"
          refine ⟨_, rfl, z, rfl, fun D nD => ?_⟩
          refine lc_its (Qd := fun H' => ∃ (p : Addr) (ys : List V), [V.ref D] = [V.ref p] ∧ (SqL K H' p ys ∨ SqT K H' p ys) ∧ rEq (V.int (ys.length : Int)) (V.int 0) H' Q) (fun i H' => H' = upd H D (.lst (nwords z i))) rfl (fun i c H1 hc e => ?_) (fun H1 e => ?_)
          · subst e
            refine ⟨rfl, ?_⟩
            walk_at "go"
            refine ⟨c, _, rfl, rfl, _, rfl, ?_⟩
            refine i_itb (fun h1 => ?_) (fun h1 => ?_)
            · have h1 : bitB c = false := by have := (notin01 c).symm.trans h1; revert this; cases bitB c <;> simp
              exact ⟨_, rfl, nwords_step hz hc h1⟩
            · have h1 : bitB c = true := by have := (notin01 c).symm.trans h1; revert this; cases bitB c <;> simp
              exact nwords_skip hc h1
          · subst e
            refine ⟨D, nwords z z.cps.size, rfl, .inl (SqL.of upd_same), rfl, ?_⟩
            rw [nwords_all]
            have e : wordV (.str z) = z.cps.toList.all bitB := by
              show ((decide (1 ≤ z.length) && decide (z.length ≤ 8)) && z.cps.toList.all bitB) = _
              rw [decide_eq_true (by omega), decide_eq_true (p := z.length ≤ 8) (by omega)]; rfl
            rw [← e]
            exact k _ (same_new (fun _ _ e => e) nD)
    | _ => (walk_at "go"; refine i_yes rfl ?_; walk_at "go"; exact k0)
end
end Me
set_option maxHeartbeats 8000000
namespace Me
open PySem L2


def wayBad (w n : V) (i : Option Nat) : Option Str := match chkBad w n with | some z => some z | none => if isK i [1, 2, 4, 3] = true ∨ i = some 0 then none else some ("kind" : Str)
def doorBad (w n y : V) (i : Option Nat) : Option Str := match chkBad w n with | some z => some z | none => if y = .non ∨ isK i [1, 2, 4, 3] = true ∨ i = some 0 then none else some ("kind" : Str)
def roomBad (w n y : V) (i : Option Nat) : Option Str := match chkBad w n with | some z => some z | none => if y = .non ∨ isK i [1, 2, 4, 3] = true then none else some ("kind" : Str)
def partBad (n : V) (i : Option Nat) : Option Str := if nameV n = true then (if isK i [1, 2, 4, 3] = true then none else some ("kind" : Str)) else some ("name" : Str)
section
variable {P : Program} {w : World} {K : PySem.W.Frag} {mg : Str → Option Value} {base : Heap} {a : Ad}
def spSimple (a : Ad) : Sp := fun vs H Q _ => ∃ x i, vs = [x] ∧ Itm a H x i ∧ ∀ H', Same H H' → Q (.bl (isK i [1, 2, 4, 3])) H'
theorem ok_simple (T : Txt K mg a) : FnOk P w K mg base CX0 1 a.is_simple.f a.is_simple.fd ["thing"] (spSimple a) := by
  have sc : FnScope ["thing"] ["thing"] (defScope (top 15)) := ⟨rfl, rfl, rfl, by decide +kernel, rfl, by decide +kernel, by decide +kernel⟩
  refine T.is_simple.ok sc (fun vs H Q E h => ?_) (fun cdv A outer s H vs Q E hr h => ?_)
  · obtain ⟨x, i, rfl, _⟩ := h
    rfl
  · obtain ⟨x, i, rfl, hx, k⟩ := h
    refine ⟨_, (pss_one (ps_ret (pe_callB call_isiT (by rfl) T.isinstance (by decide +kernel) (pa_cons (pv 0) (pa_cons (pe_tup (pa_cons (pe_glob (v := .ref (a.C 1)) rfl (T.kc 1 (by decide)).gl rfl) (pa_cons (pe_glob (v := .ref (a.C 2)) rfl (T.kc 2 (by decide)).gl rfl) (pa_cons (pe_glob (v := .ref (a.C 4)) rfl (T.kc 4 (by decide)).gl rfl) (pa_cons (pe_glob (v := .ref (a.C 3)) rfl (T.kc 3 (by decide)).gl rfl) pa_nil))))) pa_nil))))), ?_⟩
    walk_at "go"
    rename_i tp ntp
    have s1 := same_new (o := .tup [.ref (a.C 1), .ref (a.C 2), .ref (a.C 4), .ref (a.C 3)]) same_rfl ntp
    exact i_isT T [1, 2, 4, 3] (by decide) (hx.same s1) upd_same (k _ s1)
/-- None, or bad part z -/
def Chk (bad : Addr) (r : Option Str) (H : Hp) (Q : VK) (E : XK) : Prop := (r = none → ∀ H', Same H H' → Q .non H') ∧ ∀ z, r = some z → ∀ d H', Same H H' → H' d = some (.xd [("part", .str z)]) → E (.ref bad) (some d) H'
theorem Chk.bad {bad : Addr} {r : Option Str} {H H1 : Hp} {Q : VK} {E : XK} {z : Str} (k : Chk bad r H Q E) (e : r = some z) (s : Same H H1) : badW bad z E H1 := fun d n => k.2 z e d _ (same_new s n) upd_same
def spCheck (a : Ad) : Sp := fun vs H Q E => ∃ x y, vs = [x, y] ∧ Th H x ∧ Sh x ∧ Th H y ∧ Sh y ∧ Chk a.bad (chkBad x y) H Q E
theorem ok_check (T : Txt K mg a) : FnOk P w K mg base (L2.CX P w) 3 a.check_word_and_name.f a.check_word_and_name.fd ["word", "name"] (spCheck a) := by
  have G_is_word : FnOk P w K mg base CX0 2 a.is_word.f a.is_word.fd ["thing"] (spWd True) := ok_wd T
  have G_is_name : FnOk P w K mg base CX0 1 a.is_name.f a.is_name.fd ["thing"] (spIsName True) := ok_is_name T
  have sc : FnScope ["word", "name"] ["word", "name"] (defScope (top 22)) := ⟨rfl, rfl, rfl, by decide +kernel, rfl, by decide +kernel, by decide +kernel⟩
  refine T.check_word_and_name.okX sc (fun vs H Q E h => ?_) (fun cdv A outer s H vs Q E hr h => ?_)
  · obtain ⟨x, y, rfl, _⟩ := h
    rfl
  · obtain ⟨x, y, rfl, hx, sx, hy, sy, k⟩ := h
    have tk : Takes (cxOf (L2.CX P w) P w K mg base ["word", "name"] "check_word_and_name" (defScope (top 22)) a.check_word_and_name.f cdv A outer s H E) (fun cls d _ H => E cls d H) := takes_of rfl rfl rfl rfl
    refine ⟨_, (pss_cons (ps_if (pt_not (pt_val (pe_call G_is_word (hr.mono (by first | decide | omega)) rfl T.is_word.mg T.is_word.kp T.is_word.b .nil pass0 (pa_cons (pv 0) pa_nil))))
      (pss_one (ps_bad T.bad rfl (hr.mono (by decide)) tk))
      pss_nil)
      (pss_one (ps_if (pt_not (pt_val (pe_call G_is_name (hr.mono (by first | decide | omega)) rfl T.is_name.mg T.is_name.kp T.is_name.b .nil pass0 (pa_cons (pv 1) pa_nil))))
      (pss_one (ps_bad T.bad rfl (hr.mono (by decide)) tk))
      pss_nil))), ?_⟩
    walk_at "go"
    refine ⟨x, rfl, hx, sx, ?_⟩
    refine ⟨_, rfl, ?_⟩
    refine i_itb (fun h1 => ?_) (fun h1 => ?_)
    · exact k.bad (if_neg (fun z => by rw [z] at h1; cases h1)) same_rfl
    · have h1 : wordV x = true := by revert h1; cases wordV x <;> simp
      walk_at "go"
      refine ⟨y, rfl, hy, sy, fun H1 s1 => ?_⟩
      refine ⟨_, rfl, ?_⟩
      refine i_itb (fun h2 => ?_) (fun h2 => ?_)
      · refine k.bad (z := "name") ?_ s1
        unfold chkBad
        rw [if_pos h1, if_neg (fun z => by rw [z] at h2; cases h2)]
      · have h2 : nameV y = true := by revert h2; cases nameV y <;> simp
        refine k.1 ?_ _ s1
        unfold chkBad
        rw [if_pos h1, if_pos h2]
def spWay (a : Ad) : Sp := fun vs H Q E => ∃ x dx wd nm y i, vs = [.ref x, wd, nm, y] ∧ H x = some (.ins (a.C 5) dx []) ∧ Th H wd ∧ Sh wd ∧ Th H nm ∧ Sh nm ∧ Itm a H y i ∧ SpI (a.C 5) a.bad (wayBad wd nm i) [("word", wd), ("name", nm), ("kind", y)] x dx H Q E
theorem ok_Way (T : Txt K mg a) : FnOk P w K mg base (L2.CX P w) 4 (a.I 5).f (a.I 5).fd ["self", "word", "name", "kind"] (spWay a) := by
  have G_check_word_and_name : FnOk P w K mg base (L2.CX P w) 3 a.check_word_and_name.f a.check_word_and_name.fd ["word", "name"] (spCheck a) := ok_check T
  have G_is_simple : FnOk P w K mg base CX0 1 a.is_simple.f a.is_simple.fd ["thing"] (spSimple a) := ok_simple T
  have sc : FnScope ["self", "word", "name", "kind"] ["self", "word", "name", "kind"] (defScope (inClass (top 16) 0)) := ⟨rfl, rfl, rfl, by decide +kernel, rfl, by decide +kernel, by decide +kernel⟩
  refine ok0x T.I5 sc (fun vs H Q E h => ?_) (fun cdv A outer s H vs Q E hr h => ?_)
  · obtain ⟨x, dx, wd, nm, y, i, rfl, _⟩ := h
    rfl
  · obtain ⟨x, dx, wd, nm, y, i, rfl, hx, hw, sw, hn, sn, hy, k⟩ := h
    have tk : Takes (cxOf (L2.CX P w) P w K mg base ["self", "word", "name", "kind"] "Way.__init__" (defScope (inClass (top 16) 0)) (a.I 5).f cdv A outer s H E) (fun cls d _ H => E cls d H) := takes_of rfl rfl rfl rfl
    have kc := T.kc 5 (by decide)
    refine ⟨_, (pss_cons (ps_expr (pe_call G_check_word_and_name (hr.mono (by first | decide | omega)) rfl T.check_word_and_name.mg T.check_word_and_name.kp T.check_word_and_name.b .nil (passes_call tk (fun _ _ _ _ h => h)) (pa_cons (pv 1) (pa_cons (pv 2) pa_nil))))
      (pss_cons (ps_if (PW.pt (pw_and (pt_not (pt_val (pe_call G_is_simple (hr.mono (by first | decide | omega)) rfl T.is_simple.mg T.is_simple.kp T.is_simple.b .nil pass0 (pa_cons (pv 3) pa_nil)))) (pw_and1 (pt_not (pt_val (pe_callB call_isi (by rfl) T.isinstance (by decide +kernel) (pa_cons (pv 3) (pa_cons (pe_glob (v := .ref (a.C 0)) rfl (T.kc 0 (by decide)).gl rfl) pa_nil))))))))
      (pss_one (ps_bad T.bad rfl (hr.mono (by decide)) tk))
      pss_nil)
      (pss_cons (ps_fld (pv 0) (pv 1) rfl)
      (pss_cons (ps_fld (pv 0) (pv 2) rfl)
      (pss_one (ps_fld (pv 0) (pv 3) rfl)))))), ?_⟩
    walk_at "go"
    refine ⟨wd, nm, rfl, hw, sw, hn, sn, fun e H1 s1 => ?_, fun z e d H1 s1 hd => ?_⟩
    · have ek : wayBad wd nm i = if isK i [1, 2, 4, 3] = true ∨ i = some 0 then none else some ("kind" : Str) := by unfold wayBad; rw [e]
      rw [ek] at k
      have fin : (isK i [1, 2, 4, 3] = true ∨ i = some 0) → ∀ H2, Same H H2 → tSeq (sFld K (tVar 0) (tVar 1) "word") (tSeq (sFld K (tVar 0) (tVar 2) "name") (sFld K (tVar 0) (tVar 3) "kind")) { nx := fun _ H' => Q .non H', rt := Q } (L2.start ["self", "word", "name", "kind"] [.ref x, wd, nm, y]) H2 := fun e H2 s2 => by
        walk_at "go"
        refine i_sfld ?_
        walk_at "go"
        refine ⟨x, _, dx, [], rfl, s2 _ _ hx, kc.cl, kc.no _ (by decide), by decide, ?_⟩
        dsimp only
        refine i_sfld ?_
        walk_at "go"
        refine ⟨x, _, dx, [("word", wd)], rfl, upd_same, kc.cl, kc.no _ (by decide), (by show (1 : Nat) < 1000; decide), ?_⟩
        dsimp only
        refine i_sfld ?_
        walk_at "go"
        refine ⟨x, _, dx, [("word", wd), ("name", nm)], rfl, upd_same, kc.cl, kc.no _ (by decide), (by show (2 : Nat) < 1000; decide), ?_⟩
        exact k.1 (if_pos e) _ (Kept.upd (Kept.upd (Kept.upd fun b o _ e => s2 b o e))) upd_same
      walk_at "go"
      refine ⟨_, _, rfl, hy.same s1, fun H2 s2 => ?_⟩
      walk_at "go"
      refine i_itb (fun h1 => ?_) (fun h1 => ?_)
      · have h1 : isK i [1, 2, 4, 3] = false := by revert h1; cases isK i [1, 2, 4, 3] <;> simp
        walk_at "go"
        have s12 := s1.trans s2
        refine i_isC T (by decide) (hy.same s12) ?_
        walk_at "go"
        refine i_itn (fun h2 => ?_) (fun h2 => ?_)
        · exact k.bad (if_neg (fun z => z.elim (fun z => by rw [h1] at z; cases z) h2)) s12
        · exact fin (.inr h2) _ s12
      · have h1 : isK i [1, 2, 4, 3] = true := by revert h1; cases isK i [1, 2, 4, 3] <;> simp
        exact fin (.inl h1) _ (s1.trans s2)
    · refine k.2 z ?_ d H1 s1 hd
      unfold wayBad; rw [e]
def spDoor (a : Ad) : Sp := fun vs H Q E => ∃ x dx wd nm y i, vs = [.ref x, wd, nm, y] ∧ H x = some (.ins (a.C 6) dx []) ∧ Th H wd ∧ Sh wd ∧ Th H nm ∧ Sh nm ∧ Itm a H y i ∧ SpI (a.C 6) a.bad (doorBad wd nm y i) [("word", wd), ("name", nm), ("kind", y)] x dx H Q E
theorem ok_Door (T : Txt K mg a) : FnOk P w K mg base (L2.CX P w) 4 (a.I 6).f (a.I 6).fd ["self", "word", "name", "kind"] (spDoor a) := by
  have G_check_word_and_name : FnOk P w K mg base (L2.CX P w) 3 a.check_word_and_name.f a.check_word_and_name.fd ["word", "name"] (spCheck a) := ok_check T
  have G_is_simple : FnOk P w K mg base CX0 1 a.is_simple.f a.is_simple.fd ["thing"] (spSimple a) := ok_simple T
  have sc : FnScope ["self", "word", "name", "kind"] ["self", "word", "name", "kind"] (defScope (inClass (top 17) 0)) := ⟨rfl, rfl, rfl, by decide +kernel, rfl, by decide +kernel, by decide +kernel⟩
  refine ok0x T.I6 sc (fun vs H Q E h => ?_) (fun cdv A outer s H vs Q E hr h => ?_)
  · obtain ⟨x, dx, wd, nm, y, i, rfl, _⟩ := h
    rfl
  · obtain ⟨x, dx, wd, nm, y, i, rfl, hx, hw, sw, hn, sn, hy, k⟩ := h
    have tk : Takes (cxOf (L2.CX P w) P w K mg base ["self", "word", "name", "kind"] "Door.__init__" (defScope (inClass (top 17) 0)) (a.I 6).f cdv A outer s H E) (fun cls d _ H => E cls d H) := takes_of rfl rfl rfl rfl
    have kc := T.kc 6 (by decide)
    refine ⟨_, (pss_cons (ps_expr (pe_call G_check_word_and_name (hr.mono (by first | decide | omega)) rfl T.check_word_and_name.mg T.check_word_and_name.kp T.check_word_and_name.b .nil (passes_call tk (fun _ _ _ _ h => h)) (pa_cons (pv 1) (pa_cons (pv 2) pa_nil))))
      (pss_cons (ps_if (PW.pt (pw_and (pt_cmpR op_notN (pv 3) pe_non (nomark _)) (pw_and (pt_not (pt_val (pe_call G_is_simple (hr.mono (by first | decide | omega)) rfl T.is_simple.mg T.is_simple.kp T.is_simple.b .nil pass0 (pa_cons (pv 3) pa_nil)))) (pw_and1 (pt_not (pt_val (pe_callB call_isi (by rfl) T.isinstance (by decide +kernel) (pa_cons (pv 3) (pa_cons (pe_glob (v := .ref (a.C 0)) rfl (T.kc 0 (by decide)).gl rfl) pa_nil)))))))))
      (pss_one (ps_bad T.bad rfl (hr.mono (by decide)) tk))
      pss_nil)
      (pss_cons (ps_fld (pv 0) (pv 1) rfl)
      (pss_cons (ps_fld (pv 0) (pv 2) rfl)
      (pss_one (ps_fld (pv 0) (pv 3) rfl)))))), ?_⟩
    walk_at "go"
    refine ⟨wd, nm, rfl, hw, sw, hn, sn, fun e H1 s1 => ?_, fun z e d H1 s1 hd => ?_⟩
    · have ek : doorBad wd nm y i = if y = .non ∨ isK i [1, 2, 4, 3] = true ∨ i = some 0 then none else some ("kind" : Str) := by unfold doorBad; rw [e]
      rw [ek] at k
      have fin : (y = .non ∨ isK i [1, 2, 4, 3] = true ∨ i = some 0) → ∀ H2, Same H H2 → tSeq (sFld K (tVar 0) (tVar 1) "word") (tSeq (sFld K (tVar 0) (tVar 2) "name") (sFld K (tVar 0) (tVar 3) "kind")) { nx := fun _ H' => Q .non H', rt := Q } (L2.start ["self", "word", "name", "kind"] [.ref x, wd, nm, y]) H2 := fun e H2 s2 => by
        walk_at "go"
        refine i_sfld ?_
        walk_at "go"
        refine ⟨x, _, dx, [], rfl, s2 _ _ hx, kc.cl, kc.no _ (by decide), by decide, ?_⟩
        dsimp only
        refine i_sfld ?_
        walk_at "go"
        refine ⟨x, _, dx, [("word", wd)], rfl, upd_same, kc.cl, kc.no _ (by decide), (by show (1 : Nat) < 1000; decide), ?_⟩
        dsimp only
        refine i_sfld ?_
        walk_at "go"
        refine ⟨x, _, dx, [("word", wd), ("name", nm)], rfl, upd_same, kc.cl, kc.no _ (by decide), (by show (2 : Nat) < 1000; decide), ?_⟩
        exact k.1 (if_pos e) _ (Kept.upd (Kept.upd (Kept.upd fun b o _ e => s2 b o e))) upd_same
      walk_at "go"
      refine ⟨rfl, _, rfl, ?_⟩
      refine i_itn (fun h0 => ?_) (fun h0 => ?_)
      · walk_at "go"
        refine ⟨_, _, rfl, hy.same s1, fun H2 s2 => ?_⟩
        walk_at "go"
        refine i_itb (fun h1 => ?_) (fun h1 => ?_)
        · have h1 : isK i [1, 2, 4, 3] = false := by revert h1; cases isK i [1, 2, 4, 3] <;> simp
          walk_at "go"
          have s12 := s1.trans s2
          refine i_isC T (by decide) (hy.same s12) ?_
          walk_at "go"
          refine i_itn (fun h2 => ?_) (fun h2 => ?_)
          · exact k.bad (if_neg (fun z => z.elim h0 fun z => z.elim (fun z => by rw [h1] at z; cases z) h2)) s12
          · exact fin (.inr (.inr h2)) _ s12
        · have h1 : isK i [1, 2, 4, 3] = true := by revert h1; cases isK i [1, 2, 4, 3] <;> simp
          exact fin (.inr (.inl h1)) _ (s1.trans s2)
      · exact fin (.inl h0) _ s1
    · refine k.2 z ?_ d H1 s1 hd
      unfold doorBad; rw [e]
def spRoom (a : Ad) : Sp := fun vs H Q E => ∃ x dx wd nm y i, vs = [.ref x, wd, nm, y] ∧ H x = some (.ins (a.C 8) dx []) ∧ Th H wd ∧ Sh wd ∧ Th H nm ∧ Sh nm ∧ Itm a H y i ∧ SpI (a.C 8) a.bad (roomBad wd nm y i) [("word", wd), ("name", nm), ("kind", y)] x dx H Q E
theorem ok_Room (T : Txt K mg a) : FnOk P w K mg base (L2.CX P w) 4 (a.I 8).f (a.I 8).fd ["self", "word", "name", "kind"] (spRoom a) := by
  have G_check_word_and_name : FnOk P w K mg base (L2.CX P w) 3 a.check_word_and_name.f a.check_word_and_name.fd ["word", "name"] (spCheck a) := ok_check T
  have G_is_simple : FnOk P w K mg base CX0 1 a.is_simple.f a.is_simple.fd ["thing"] (spSimple a) := ok_simple T
  have sc : FnScope ["self", "word", "name", "kind"] ["self", "word", "name", "kind"] (defScope (inClass (top 19) 0)) := ⟨rfl, rfl, rfl, by decide +kernel, rfl, by decide +kernel, by decide +kernel⟩
  refine ok0x T.I8 sc (fun vs H Q E h => ?_) (fun cdv A outer s H vs Q E hr h => ?_)
  · obtain ⟨x, dx, wd, nm, y, i, rfl, _⟩ := h
    rfl
  · obtain ⟨x, dx, wd, nm, y, i, rfl, hx, hw, sw, hn, sn, hy, k⟩ := h
    have tk : Takes (cxOf (L2.CX P w) P w K mg base ["self", "word", "name", "kind"] "Room.__init__" (defScope (inClass (top 19) 0)) (a.I 8).f cdv A outer s H E) (fun cls d _ H => E cls d H) := takes_of rfl rfl rfl rfl
    have kc := T.kc 8 (by decide)
    refine ⟨_, (pss_cons (ps_expr (pe_call G_check_word_and_name (hr.mono (by first | decide | omega)) rfl T.check_word_and_name.mg T.check_word_and_name.kp T.check_word_and_name.b .nil (passes_call tk (fun _ _ _ _ h => h)) (pa_cons (pv 1) (pa_cons (pv 2) pa_nil))))
      (pss_cons (ps_if (PW.pt (pw_and (pt_cmpR op_notN (pv 3) pe_non (nomark _)) (pw_and1 (pt_not (pt_val (pe_call G_is_simple (hr.mono (by first | decide | omega)) rfl T.is_simple.mg T.is_simple.kp T.is_simple.b .nil pass0 (pa_cons (pv 3) pa_nil)))))))
      (pss_one (ps_bad T.bad rfl (hr.mono (by decide)) tk))
      pss_nil)
      (pss_cons (ps_fld (pv 0) (pv 1) rfl)
      (pss_cons (ps_fld (pv 0) (pv 2) rfl)
      (pss_one (ps_fld (pv 0) (pv 3) rfl)))))), ?_⟩
    walk_at "go"
    refine ⟨wd, nm, rfl, hw, sw, hn, sn, fun e H1 s1 => ?_, fun z e d H1 s1 hd => ?_⟩
    · have ek : roomBad wd nm y i = if y = .non ∨ isK i [1, 2, 4, 3] = true then none else some ("kind" : Str) := by unfold roomBad; rw [e]
      rw [ek] at k
      have fin : (y = .non ∨ isK i [1, 2, 4, 3] = true) → ∀ H2, Same H H2 → tSeq (sFld K (tVar 0) (tVar 1) "word") (tSeq (sFld K (tVar 0) (tVar 2) "name") (sFld K (tVar 0) (tVar 3) "kind")) { nx := fun _ H' => Q .non H', rt := Q } (L2.start ["self", "word", "name", "kind"] [.ref x, wd, nm, y]) H2 := fun e H2 s2 => by
        walk_at "go"
        refine i_sfld ?_
        walk_at "go"
        refine ⟨x, _, dx, [], rfl, s2 _ _ hx, kc.cl, kc.no _ (by decide), by decide, ?_⟩
        dsimp only
        refine i_sfld ?_
        walk_at "go"
        refine ⟨x, _, dx, [("word", wd)], rfl, upd_same, kc.cl, kc.no _ (by decide), (by show (1 : Nat) < 1000; decide), ?_⟩
        dsimp only
        refine i_sfld ?_
        walk_at "go"
        refine ⟨x, _, dx, [("word", wd), ("name", nm)], rfl, upd_same, kc.cl, kc.no _ (by decide), (by show (2 : Nat) < 1000; decide), ?_⟩
        exact k.1 (if_pos e) _ (Kept.upd (Kept.upd (Kept.upd fun b o _ e => s2 b o e))) upd_same
      walk_at "go"
      refine ⟨rfl, _, rfl, ?_⟩
      refine i_itn (fun h0 => ?_) (fun h0 => ?_)
      · walk_at "go"
        refine ⟨_, _, rfl, hy.same s1, fun H2 s2 => ?_⟩
        refine ⟨_, rfl, ?_⟩
        refine i_itb (fun h1 => ?_) (fun h1 => ?_)
        · have h1 : isK i [1, 2, 4, 3] = false := by revert h1; cases isK i [1, 2, 4, 3] <;> simp
          exact k.bad (if_neg (fun z => z.elim h0 fun z => by rw [h1] at z; cases z)) (s1.trans s2)
        · have h1 : isK i [1, 2, 4, 3] = true := by revert h1; cases isK i [1, 2, 4, 3] <;> simp
          exact fin (.inr h1) _ (s1.trans s2)
      · exact fin (.inl h0) _ s1
    · refine k.2 z ?_ d H1 s1 hd
      unfold roomBad; rw [e]
def spPart (a : Ad) : Sp := fun vs H Q E => ∃ x dx nm y i, vs = [.ref x, nm, y] ∧ H x = some (.ins (a.C 7) dx []) ∧ Th H nm ∧ Sh nm ∧ Itm a H y i ∧ SpI (a.C 7) a.bad (partBad nm i) [("name", nm), ("kind", y)] x dx H Q E
theorem ok_Part (T : Txt K mg a) : FnOk P w K mg base (L2.CX P w) 4 (a.I 7).f (a.I 7).fd ["self", "name", "kind"] (spPart a) := by
  have G_is_name : FnOk P w K mg base CX0 1 a.is_name.f a.is_name.fd ["thing"] (spIsName True) := ok_is_name T
  have G_is_simple : FnOk P w K mg base CX0 1 a.is_simple.f a.is_simple.fd ["thing"] (spSimple a) := ok_simple T
  have sc : FnScope ["self", "name", "kind"] ["self", "name", "kind"] (defScope (inClass (top 18) 0)) := ⟨rfl, rfl, rfl, by decide +kernel, rfl, by decide +kernel, by decide +kernel⟩
  refine ok0x T.I7 sc (fun vs H Q E h => ?_) (fun cdv A outer s H vs Q E hr h => ?_)
  · obtain ⟨x, dx, nm, y, i, rfl, _⟩ := h
    rfl
  · obtain ⟨x, dx, nm, y, i, rfl, hx, hn, sn, hy, k⟩ := h
    have tk : Takes (cxOf (L2.CX P w) P w K mg base ["self", "name", "kind"] "Part.__init__" (defScope (inClass (top 18) 0)) (a.I 7).f cdv A outer s H E) (fun cls d _ H => E cls d H) := takes_of rfl rfl rfl rfl
    have kc := T.kc 7 (by decide)
    refine ⟨_, (pss_cons (ps_if (pt_not (pt_val (pe_call G_is_name (hr.mono (by first | decide | omega)) rfl T.is_name.mg T.is_name.kp T.is_name.b .nil pass0 (pa_cons (pv 1) pa_nil))))
      (pss_one (ps_bad T.bad rfl (hr.mono (by decide)) tk))
      pss_nil)
      (pss_cons (ps_if (pt_not (pt_val (pe_call G_is_simple (hr.mono (by first | decide | omega)) rfl T.is_simple.mg T.is_simple.kp T.is_simple.b .nil pass0 (pa_cons (pv 2) pa_nil))))
      (pss_one (ps_bad T.bad rfl (hr.mono (by decide)) tk))
      pss_nil)
      (pss_cons (ps_fld (pv 0) (pv 1) rfl)
      (pss_one (ps_fld (pv 0) (pv 2) rfl))))), ?_⟩
    walk_at "go"
    refine ⟨nm, rfl, hn, sn, fun H1 s1 => ?_⟩
    refine ⟨_, rfl, ?_⟩
    refine i_itb (fun h1 => ?_) (fun h1 => ?_)
    · exact k.bad (if_neg (fun z => by rw [z] at h1; cases h1)) s1
    · have h1 : nameV nm = true := by revert h1; cases nameV nm <;> simp
      have ek : partBad nm i = if isK i [1, 2, 4, 3] = true then none else some ("kind" : Str) := if_pos h1
      rw [ek] at k
      walk_at "go"
      refine ⟨_, _, rfl, hy.same s1, fun H2 s2 => ?_⟩
      have s12 := s1.trans s2
      refine ⟨_, rfl, ?_⟩
      refine i_itb (fun h2 => ?_) (fun h2 => ?_)
      · exact k.bad (if_neg (fun z => by rw [z] at h2; cases h2)) s12
      · have h2 : isK i [1, 2, 4, 3] = true := by revert h2; cases isK i [1, 2, 4, 3] <;> simp
        walk_at "go"
        dsimp only
        refine i_sfld ?_
        walk_at "go"
        refine ⟨x, _, dx, [], rfl, s12 _ _ hx, kc.cl, kc.no _ (by decide), by decide, ?_⟩
        dsimp only
        refine i_sfld ?_
        walk_at "go"
        refine ⟨x, _, dx, [("name", nm)], rfl, upd_same, kc.cl, kc.no _ (by decide), (by show (1 : Nat) < 1000; decide), ?_⟩
        exact k.1 (if_pos h2) _ (Kept.upd (Kept.upd fun b o _ e => s12 b o e)) upd_same
end
end Me
set_option maxHeartbeats 8000000
namespace Me
open PySem L2


def RNot (a : Ad) : Addr → Addr → Hp → Prop := fun p q H => ∃ dy, H q = some (.ins (a.C 0) dy [])
/-- equal kinds inside ways and parts -/
def DKin (a : Ad) : L2.Eqv := fun x y H => DIns (a.C 0) (RNot a) x y H ∨ DSim a x y H ∨ DIns (a.C 4) (RItm a) x y H
def KEq (a : Ad) (x y : V) (H : Hp) : Prop := (x = .non ∧ y = .non) ∨ DKin a x y H
def rKin (a : Ad) : R2 := fun x y H Q => (x = .non ∧ y = .non ∧ Q (.bl true) H) ∨ rEqG (DKin a) x y H Q
def R3 (a : Ad) (i : Nat) : Addr → Addr → Hp → Prop := fun p q H => ∃ dx dy wd nm y z, H p = some (.ins (a.C i) dx [("word", wd), ("name", nm), ("kind", y)]) ∧ H q = some (.ins (a.C i) dy [("word", wd), ("name", nm), ("kind", z)]) ∧ scal wd wd = true ∧ scal nm nm = true ∧ KEq a y z H
def RPart (a : Ad) : Addr → Addr → Hp → Prop := fun p q H => ∃ dx dy nm y z, H p = some (.ins (a.C 7) dx [("name", nm), ("kind", y)]) ∧ H q = some (.ins (a.C 7) dy [("name", nm), ("kind", z)]) ∧ scal nm nm = true ∧ KEq a y z H
def DMade (a : Ad) : L2.Eqv := fun x y H => DIns (a.C 5) (R3 a 5) x y H ∨ DIns (a.C 6) (R3 a 6) x y H ∨ DIns (a.C 7) (RPart a) x y H ∨ DIns (a.C 8) (R3 a 8) x y H
section
variable {P : Program} {w : World} {K : PySem.W.Frag} {mg : Str → Option Value} {base : Heap} {a : Ad}
theorem ok_eq0 (T : Txt K mg a) : FnOk P w K mg base CX0 1 (a.E 0).f (a.E 0).fd ["self", "other"] (spEq (RNot a)) := by
  have sc : FnScope ["self", "other"] ["self", "other"] (defScope (inClass (top 10) 0)) := ⟨rfl, rfl, rfl, by decide +kernel, rfl, by decide +kernel, by decide +kernel⟩
  refine ok0 T.E0 sc (fun vs H Q E h => ?_) (fun cdv A outer s H vs Q E hr h => ?_)
  · obtain ⟨p, q, rfl, _⟩ := h
    rfl
  · obtain ⟨p, q, rfl, ⟨dy, hq⟩, k⟩ := h
    refine ⟨_, (pss_one (ps_ret (pe_callB call_isi (by rfl) T.isinstance (by decide +kernel) (pa_cons (pv 1) (pa_cons (pe_glob (v := .ref (a.C 0)) rfl (T.kc 0 (by decide)).gl rfl) pa_nil))))), ?_⟩
    walk_at "go"
    refine i_isC T (by decide) (.ins (by decide) hq) ?_
    exact k _ Ext.rfl'
theorem rc_kin {X : Cx} (T : Txt X.K X.mg a) : RcG X 2 (DKin a) := by
  intro A pins s σ H x y u v sb I rx ry d
  rcases d with d | d | d
  · exact rcG_ins ((ok_eq0 T).mono (by decide : 1 ≤ 2)) (T.kc 0 (by decide)).eqA (T.kc 0 (by decide)).eqF T.Eb0 pass0 A pins s σ H x y u v sb I rx ry d
  · exact rc_sim T A pins s σ H x y u v (sb.mono (by decide)) I rx ry d
  · exact rc_itm T A pins s σ H x y u v sb I rx ry d
theorem op_kin {X : Cx} (T : Txt X.K X.mg a) (hr : Room 2 X.A) : OpR X (compareOp .Eq) (rKin a) := by
  intro pins s σ H x y v u Q I rx ry h
  rcases h with ⟨rfl, rfl, q⟩ | h
  · exact op_eq pins s σ H .non .non v u Q I rx ry ⟨rfl, by rw [decide_eq_true rfl]; exact q⟩
  · exact op_eqG (rc_kin T) hr pins s σ H x y v u Q I rx ry h
theorem ok_eq5 (T : Txt K mg a) : FnOk P w K mg base CX0 3 (a.E 5).f (a.E 5).fd ["self", "other"] (spEq (R3 a 5)) := by
  have sc : FnScope ["self", "other"] ["self", "other"] (defScope (inClass (top 16) 1)) := ⟨rfl, rfl, rfl, by decide +kernel, rfl, by decide +kernel, by decide +kernel⟩
  refine ok0 T.E5 sc (fun vs H Q E h => ?_) (fun cdv A outer s H vs Q E hr h => ?_)
  · obtain ⟨p, q, rfl, _⟩ := h
    rfl
  · obtain ⟨p, q, rfl, ⟨dx, dy, wd, nm, y, z, hp, hq, e1, e2, e3⟩, k⟩ := h
    have kc := T.kc 5 (by decide)
    refine ⟨_, (pss_one (ps_ret (pe_and (pe_callB call_isi (by rfl) T.isinstance (by decide +kernel) (pa_cons (pv 1) (pa_cons (pe_glob (v := .ref (a.C 5)) rfl (T.kc 5 (by decide)).gl rfl) pa_nil))) (pe_and (pe_cmpR op_eq (pe_fld (pv 0) rfl) (pe_fld (pv 1) rfl) (nomark _)) (pe_and (pe_cmpR op_eq (pe_fld (pv 0) rfl) (pe_fld (pv 1) rfl) (nomark _)) (pe_one (pe_cmpR (op_kin T (hr.mono (by decide))) (pe_fld (pv 0) rfl) (pe_fld (pv 1) rfl) (nomark _)))))))), ?_⟩
    walk_at "go"
    refine i_isC T (by decide) (.ins (by decide) hq) ?_
    refine ⟨_, rfl, i_yes (decide_eq_true rfl) ?_⟩
    refine i_andV (i_feq rfl rfl hp hq kc.cl (kc.no _ (by decide)) rfl rfl e1 ⟨_, rfl, i_yes rfl ?_⟩)
    refine i_andV (i_feq rfl rfl hp hq kc.cl (kc.no _ (by decide)) rfl rfl e2 ⟨_, rfl, i_yes rfl ?_⟩)
    refine ⟨_, rfl, p, _, _, _, y, rfl, hp, kc.cl, kc.no _ (by decide), rfl, _, rfl, q, _, _, _, z, rfl, hq, kc.cl, kc.no _ (by decide), rfl, ?_⟩
    rcases e3 with ⟨rfl, rfl⟩ | d
    · exact .inl ⟨rfl, rfl, k _ Ext.rfl'⟩
    · exact .inr ⟨d, fun H1 x1 => k _ x1⟩
theorem ok_eq6 (T : Txt K mg a) : FnOk P w K mg base CX0 3 (a.E 6).f (a.E 6).fd ["self", "other"] (spEq (R3 a 6)) := by
  have sc : FnScope ["self", "other"] ["self", "other"] (defScope (inClass (top 17) 1)) := ⟨rfl, rfl, rfl, by decide +kernel, rfl, by decide +kernel, by decide +kernel⟩
  refine ok0 T.E6 sc (fun vs H Q E h => ?_) (fun cdv A outer s H vs Q E hr h => ?_)
  · obtain ⟨p, q, rfl, _⟩ := h
    rfl
  · obtain ⟨p, q, rfl, ⟨dx, dy, wd, nm, y, z, hp, hq, e1, e2, e3⟩, k⟩ := h
    have kc := T.kc 6 (by decide)
    refine ⟨_, (pss_one (ps_ret (pe_and (pe_callB call_isi (by rfl) T.isinstance (by decide +kernel) (pa_cons (pv 1) (pa_cons (pe_glob (v := .ref (a.C 6)) rfl (T.kc 6 (by decide)).gl rfl) pa_nil))) (pe_and (pe_cmpR op_eq (pe_fld (pv 0) rfl) (pe_fld (pv 1) rfl) (nomark _)) (pe_and (pe_cmpR op_eq (pe_fld (pv 0) rfl) (pe_fld (pv 1) rfl) (nomark _)) (pe_one (pe_cmpR (op_kin T (hr.mono (by decide))) (pe_fld (pv 0) rfl) (pe_fld (pv 1) rfl) (nomark _)))))))), ?_⟩
    walk_at "go"
    refine i_isC T (by decide) (.ins (by decide) hq) ?_
    refine ⟨_, rfl, i_yes (decide_eq_true rfl) ?_⟩
    refine i_andV (i_feq rfl rfl hp hq kc.cl (kc.no _ (by decide)) rfl rfl e1 ⟨_, rfl, i_yes rfl ?_⟩)
    refine i_andV (i_feq rfl rfl hp hq kc.cl (kc.no _ (by decide)) rfl rfl e2 ⟨_, rfl, i_yes rfl ?_⟩)
    refine ⟨_, rfl, p, _, _, _, y, rfl, hp, kc.cl, kc.no _ (by decide), rfl, _, rfl, q, _, _, _, z, rfl, hq, kc.cl, kc.no _ (by decide), rfl, ?_⟩
    rcases e3 with ⟨rfl, rfl⟩ | d
    · exact .inl ⟨rfl, rfl, k _ Ext.rfl'⟩
    · exact .inr ⟨d, fun H1 x1 => k _ x1⟩
theorem ok_eq8 (T : Txt K mg a) : FnOk P w K mg base CX0 3 (a.E 8).f (a.E 8).fd ["self", "other"] (spEq (R3 a 8)) := by
  have sc : FnScope ["self", "other"] ["self", "other"] (defScope (inClass (top 19) 1)) := ⟨rfl, rfl, rfl, by decide +kernel, rfl, by decide +kernel, by decide +kernel⟩
  refine ok0 T.E8 sc (fun vs H Q E h => ?_) (fun cdv A outer s H vs Q E hr h => ?_)
  · obtain ⟨p, q, rfl, _⟩ := h
    rfl
  · obtain ⟨p, q, rfl, ⟨dx, dy, wd, nm, y, z, hp, hq, e1, e2, e3⟩, k⟩ := h
    have kc := T.kc 8 (by decide)
    refine ⟨_, (pss_one (ps_ret (pe_and (pe_callB call_isi (by rfl) T.isinstance (by decide +kernel) (pa_cons (pv 1) (pa_cons (pe_glob (v := .ref (a.C 8)) rfl (T.kc 8 (by decide)).gl rfl) pa_nil))) (pe_and (pe_cmpR op_eq (pe_fld (pv 0) rfl) (pe_fld (pv 1) rfl) (nomark _)) (pe_and (pe_cmpR op_eq (pe_fld (pv 0) rfl) (pe_fld (pv 1) rfl) (nomark _)) (pe_one (pe_cmpR (op_kin T (hr.mono (by decide))) (pe_fld (pv 0) rfl) (pe_fld (pv 1) rfl) (nomark _)))))))), ?_⟩
    walk_at "go"
    refine i_isC T (by decide) (.ins (by decide) hq) ?_
    refine ⟨_, rfl, i_yes (decide_eq_true rfl) ?_⟩
    refine i_andV (i_feq rfl rfl hp hq kc.cl (kc.no _ (by decide)) rfl rfl e1 ⟨_, rfl, i_yes rfl ?_⟩)
    refine i_andV (i_feq rfl rfl hp hq kc.cl (kc.no _ (by decide)) rfl rfl e2 ⟨_, rfl, i_yes rfl ?_⟩)
    refine ⟨_, rfl, p, _, _, _, y, rfl, hp, kc.cl, kc.no _ (by decide), rfl, _, rfl, q, _, _, _, z, rfl, hq, kc.cl, kc.no _ (by decide), rfl, ?_⟩
    rcases e3 with ⟨rfl, rfl⟩ | d
    · exact .inl ⟨rfl, rfl, k _ Ext.rfl'⟩
    · exact .inr ⟨d, fun H1 x1 => k _ x1⟩
theorem ok_eq7 (T : Txt K mg a) : FnOk P w K mg base CX0 3 (a.E 7).f (a.E 7).fd ["self", "other"] (spEq (RPart a)) := by
  have sc : FnScope ["self", "other"] ["self", "other"] (defScope (inClass (top 18) 1)) := ⟨rfl, rfl, rfl, by decide +kernel, rfl, by decide +kernel, by decide +kernel⟩
  refine ok0 T.E7 sc (fun vs H Q E h => ?_) (fun cdv A outer s H vs Q E hr h => ?_)
  · obtain ⟨p, q, rfl, _⟩ := h
    rfl
  · obtain ⟨p, q, rfl, ⟨dx, dy, nm, y, z, hp, hq, e2, e3⟩, k⟩ := h
    have kc := T.kc 7 (by decide)
    refine ⟨_, (pss_one (ps_ret (pe_and (pe_callB call_isi (by rfl) T.isinstance (by decide +kernel) (pa_cons (pv 1) (pa_cons (pe_glob (v := .ref (a.C 7)) rfl (T.kc 7 (by decide)).gl rfl) pa_nil))) (pe_and (pe_cmpR op_eq (pe_fld (pv 0) rfl) (pe_fld (pv 1) rfl) (nomark _)) (pe_one (pe_cmpR (op_kin T (hr.mono (by decide))) (pe_fld (pv 0) rfl) (pe_fld (pv 1) rfl) (nomark _))))))), ?_⟩
    walk_at "go"
    refine i_isC T (by decide) (.ins (by decide) hq) ?_
    refine ⟨_, rfl, i_yes (decide_eq_true rfl) ?_⟩
    refine i_andV (i_feq rfl rfl hp hq kc.cl (kc.no _ (by decide)) rfl rfl e2 ⟨_, rfl, i_yes rfl ?_⟩)
    refine ⟨_, rfl, p, _, _, _, y, rfl, hp, kc.cl, kc.no _ (by decide), rfl, _, rfl, q, _, _, _, z, rfl, hq, kc.cl, kc.no _ (by decide), rfl, ?_⟩
    rcases e3 with ⟨rfl, rfl⟩ | d
    · exact .inl ⟨rfl, rfl, k _ Ext.rfl'⟩
    · exact .inr ⟨d, fun H1 x1 => k _ x1⟩
theorem rc_made {X : Cx} (T : Txt X.K X.mg a) : RcG X 3 (DMade a) := by
  intro A pins s σ H x y u v sb I rx ry d
  rcases d with d | d | d | d
  · exact rcG_ins (ok_eq5 T) (T.kc 5 (by decide)).eqA (T.kc 5 (by decide)).eqF T.Eb5 pass0 A pins s σ H x y u v sb I rx ry d
  · exact rcG_ins (ok_eq6 T) (T.kc 6 (by decide)).eqA (T.kc 6 (by decide)).eqF T.Eb6 pass0 A pins s σ H x y u v sb I rx ry d
  · exact rcG_ins (ok_eq7 T) (T.kc 7 (by decide)).eqA (T.kc 7 (by decide)).eqF T.Eb7 pass0 A pins s σ H x y u v sb I rx ry d
  · exact rcG_ins (ok_eq8 T) (T.kc 8 (by decide)).eqA (T.kc 8 (by decide)).eqF T.Eb8 pass0 A pins s σ H x y u v sb I rx ry d
end
end Me
set_option maxHeartbeats 8000000
namespace Me
open PySem L2 PyProof.Rows PySem.Spec
/-! ### set comprehensions of texts and integers -/
/-- {elt for target in iter if ..}: D the new set -/
def tScK (P : Program) (w : World) (wi : TI) (g : TG) (tt : TT) (te : TE) (vs : List Nat) : TE := fun σ H Q => wi σ H fun J H1 => ∀ D, H1 D = none → ∃ W : Nat → Nat → Hp → Prop, (∃ m, W 0 m (upd H1 D (SetK P w D (fun _ => false) 0))) ∧ ∀ i m H, W i m H →
  (J.stop i H ∧ Q (.ref D) H) ∨ (J.go i H ∧ ∃ Nx : Hp → Prop, (∀ H', Nx H' → ∃ m', m' < m ∧ W (i + 1) m' H') ∧ ∀ x H', J.yld i H x H' → g x (wipe σ vs) H' fun σ2 H2 => wipe σ2 vs = wipe σ vs ∧ tt σ2 H2 fun b H3 =>
    if b = true then te σ2 H3 fun y H4 => rSAddK P w (.ref D) [y] H4 fun _ H5 => Nx H5 else Nx H3)
/-- an empty set at the end of a heap -/
theorem set_new {P : Program} {w : World} {h : Heap} : (h.push { cls := .type "set", dict := none, data := .set #[] 0 (.fresh 0 0 (!w.params.followText "set-order")) }).SetOf (mixKind P w) h.objs.size (fun _ => false) 0 :=
  ⟨_, #[], 0, _, Heap.get?_push_size _ rfl, ⟨rfl, rfl, rfl⟩, rfl, (fun e he => by simp at he), (fun k => by simp), (by decide), (by rfl), rfl⟩
section
variable {X : Cx}
/-- what holds at each turn of the block -/
def Turn (Z : Cx) (σ0 : L2.St) (fp : List Addr) (tn : Nat → Heap → Prop) (W : Nat → Nat → Hp → Prop) (n : Nat) (s : Shared) : Prop :=
  ∃ i H', Inv Z [] σ0 H' s ∧ tn i s.heap ∧ (∀ b ∈ fp, H' b = none) ∧ W i n H'
theorem pe_scK {elt tg iter : Expr} {ifs : List Expr} {scope : Scope} {own : List (PySem.Str × Nat)} {pos : Pos} {wi : TI} {g : TG} {tt : TT} {te : TE} (hc : X.calm = true) (hN : X.N.Nodup) (hi : PI X tg iter wi) (ok : BlkOk X.N X.env.scope scope own)
    (hg : ∀ (s : Shared) (H : Hp) (C : Addr) (cl : List (PySem.Str × Addr)) (fp : List Addr), PG (X.blk s H scope (compEnvC scope cl C X.env) fp) tg g) (ht : ∀ (s : Shared) (H : Hp) (C : Addr) (cl : List (PySem.Str × Addr)) (fp : List Addr), PTs (X.blk s H scope (compEnvC scope cl C X.env) fp) ifs tt)
    (he : ∀ (s : Shared) (H : Hp) (C : Addr) (cl : List (PySem.Str × Addr)) (fp : List Addr), PE (X.blk s H scope (compEnvC scope cl C X.env) fp) elt te) (hs : ∀ x, foldedSetIterable iter X.env x = pure x := by intro _; rfl) :
    PE X (.SetComp elt [⟨tg, iter, ifs, 0⟩] scope pos) (tScK X.prog X.w wi g tt te (own.map (·.2))) := by
  refine ⟨fun pins s σ H Q I h => ?_⟩
  rw [PpSet.eval_SetComp]
  have closed : ∀ y ∈ scope.names, y.2 = .free → ∃ c, X.env.cells.lookup y.1 = some c := by
    intro y hy e
    rcases ok.free y hy e with k | k
    · exact I.ok.has _ (.inl k)
    · exact I.ok.has _ (.inr k)
  refine wpAny_comprehension_free (use := none) rfl hs (closure_ok closed) ok.kind (fun y hy e => by rw [ok.uniq y hy, e]) ?_
  refine thn (hi.run pins s σ H _ I h) fun xv s1 hx => thn hx fun itv s2 ⟨it, fp, tn, J, H2, e, I2, T, st2, f2, q⟩ => ?_
  subst e
  refine PpSet.newSet_ok (newEnv_comp ?_)
  -- the new set
  have noD : H2 s2.heap.objs.size = none := I2.hok.fresh (Nat.le_refl _)
  obtain ⟨W, ⟨m0, w0⟩, turn⟩ := q s2.heap.objs.size noD
  have I3 : Inv X pins σ (upd H2 s2.heap.objs.size (SetK X.prog X.w s2.heap.objs.size (fun _ => false) 0)) { s2 with heap := s2.heap.push { cls := .type "set", dict := none, data := .set #[] 0 (.fresh 0 0 (!X.w.params.followText "set-order")) } } :=
    I2.laid (t' := s2.toks) (fun b o e => Heap.get?_push_of_some _ e) (Nat.le_refl _) (setK_new set_new)
  have ltD : ∀ b ∈ fp, b < s2.heap.objs.size := fun b hb => by
    obtain ⟨o, e, _⟩ := T.obj _ _ st2 b hb
    exact Heap.lt_size e
  have keepT : ∀ b o, s2.heap.get? b = some o → ({ s2 with heap := s2.heap.push { cls := .type "set", dict := none, data := .set #[] 0 (.fresh 0 0 (!X.w.params.followText "set-order")) } } : Shared).heap.get? b = some o := fun b o e => Heap.get?_push_of_some _ e
  have st3 := T.keep _ _ _ st2 fun b _ o e => keepT b o e
  have szD : s2.heap.objs.size < ({ s2 with heap := s2.heap.push { cls := .type "set", dict := none, data := .set #[] 0 (.fresh 0 0 (!X.w.params.followText "set-order")) } } : Shared).heap.objs.size := by
    show _ < (s2.heap.push _).objs.size
    rw [Heap.size_push]; exact Nat.lt_succ_self _
  generalize hD : s2.heap.objs.size = D at noD w0 turn I3 ltD szD
  generalize hs3 : ({ s2 with heap := s2.heap.push { cls := .type "set", dict := none, data := .set #[] 0 (.fresh 0 0 (!X.w.params.followText "set-order")) } } : Shared) = s3 at I3 st3 szD ⊢
  generalize hH3 : upd H2 D (SetK X.prog X.w D (fun _ => false) 0) = H3 at w0 I3
  have f3 : ∀ b ∈ fp, FpOk X pins H3 b ∧ b < s3.heap.objs.size := fun b hb =>
    ⟨⟨by rw [← hH3, upd_ne (Nat.ne_of_lt (ltD b hb))]; exact (f2 b hb).1, (f2 b hb).2⟩, Nat.lt_trans (ltD b hb) szD⟩
  have I4 := block_start I3 ok hN f3
  have pg := hg s3 H3 s3.heap.objs.size (cellsFrom (s3.heap.objs.size + 1) scope.names (cloFrom X.env.cells scope.names [])) fp
  have pt := ht s3 H3 s3.heap.objs.size (cellsFrom (s3.heap.objs.size + 1) scope.names (cloFrom X.env.cells scope.names [])) fp
  have pe := he s3 H3 s3.heap.objs.size (cellsFrom (s3.heap.objs.size + 1) scope.names (cloFrom X.env.cells scope.names [])) fp
  change codeAny _ _ (.compStart _ 0 (.ref it) (.ref D) (compEnvC scope (cellsFrom (s3.heap.objs.size + 1) scope.names (cloFrom X.env.cells scope.names [])) s3.heap.objs.size X.env)) (compPost (model X.prog X.w) X.A X.xe none (EP X pins σ Q) (.ref D) s3.heap.objs.size) { s3 with heap := pushCells (s3.heap.push { cls := .type "dict", data := .dict #[] }) scope.names }
  have loc : (compEnvC scope (cellsFrom (s3.heap.objs.size + 1) scope.names (cloFrom X.env.cells scope.names [])) s3.heap.objs.size X.env).locals = s3.heap.objs.size := rfl
  generalize compEnvC scope (cellsFrom (s3.heap.objs.size + 1) scope.names (cloFrom X.env.cells scope.names [])) s3.heap.objs.size X.env = ce at I4 pg pt pe loc ⊢
  have st4 : tn 0 (pushCells (s3.heap.push { cls := .type "dict", data := .dict #[] }) scope.names) := T.keep _ _ _ st3 fun b _ o e => pushCells_keeps _ _ _ _ (Heap.get?_push_of_some _ e)
  generalize hs4 : ({ s3 with heap := pushCells (s3.heap.push { cls := .type "dict", data := .dict #[] }) scope.names } : Shared) = s4 at I4 ⊢
  have st4 : tn 0 s4.heap := by rw [← hs4]; exact st4
  -- the iterator's objects stay foreign to the block
  have far : ∀ {σ' : L2.St} {H' : Hp} {s' : Shared}, L2.Inv (X.blk s3 H3 scope ce fp) [] σ' H' s' → (∀ b ∈ fp, H' b = none) → ∀ b ∈ fp, FpOk (X.blk s3 H3 scope ce fp) [] H' b := by
    intro σ' H' s' I' hn b hb
    exact ⟨hn b hb, (I'.ok.exf b hb).1, I'.ok.exfs b hb, .inl hb, fun x c e => (I'.ok.exf b hb).2 x c e, fun p hp => absurd (show p ∈ ([] : List (Addr × Obj)) ++ [] from hp) (by simp)⟩
  refine PpSet.codeAny_compStart_set ?_ (T.self X.A 0 _ _ _ st4 ?_)
  all_goals
    refine PpSet.compLoopS_any (Turn (X.blk s3 H3 scope ce fp) (wipe σ (own.map (·.2))) fp tn W) (fun n s5 h5 => ?_) m0 ⟨0, H3, I4, st4, fun b hb => (f3 b hb).1.1, w0⟩
    obtain ⟨i, H5, I5, st5, n5, w5⟩ := h5
    rcases turn i n H5 w5 with ⟨stop, fin⟩ | ⟨go, Nx, less, step⟩
    · refine thnF (T.done (X.blk s3 H3 scope ce fp) rfl rfl rfl hc i [] s5 _ H5 (fun _ _ => False) I5 (far I5 n5) st5 stop) fun r s6 ⟨hr, I6⟩ => ?_
      subst hr
      have I7 : L2.Inv X pins σ H5 s6 := I3.call' (ch := fp) I6.os I6.base I6.hok I6.bare fun b hb => ⟨(f3 b hb).1.2.2.2.1, (f3 b hb).1.2.1, (f3 b hb).1.2.2.2.2.1, (f3 b hb).1.2.2.2.2.2⟩
      have nC : H5 s3.heap.objs.size = none := by rw [← loc]; exact I6.free
      obtain ⟨m, hn, _⟩ := I6.loc
      have hn : s6.heap.Ns s3.heap.objs.size m := by rw [← loc]; exact hn
      obtain ⟨f0, f1, f2, f3, f4, f5⟩ := I3.fpOk (Nat.le_refl _) nC
      exact ⟨m, hn, fun h'' sb => ⟨.ref D, H5, I7.turned (t' := s6.toks) (fun b o hb e => (sb.2 b hb).trans e) f0 f1 f3 f4 f5, rfl, fin⟩⟩
    · refine thnF (T.item (X.blk s3 H3 scope ce fp) rfl rfl rfl hc i [] s5 _ H5 (fun _ _ => False) I5 (far I5 n5) st5 go) fun r s6 ⟨u, hr, h6⟩ => ?_
      subst hr
      refine thnF h6 fun _ s7 ⟨x, H7, I7, r7, y7, st7, n7⟩ => ?_
      refine thnF (pg.run _ s7 _ H7 x u _ (I7.pinned (far I7 n7) (T.obj _ _ st7)) r7 (step x H7 y7)) fun _ s8 ⟨σ8, H8, I8, same, q8⟩ => ?_
      refine thnF (pt.run _ s8 σ8 H8 _ I8 q8) fun b s9 ⟨H9, I9, q9⟩ => ?_
      have next : ∀ {s' : Shared} {H' : Hp}, L2.Inv (X.blk s3 H3 scope ce fp) ([] ++ pinsAt fp s7.heap) σ8 H' s' → Nx H' → ∃ m, m < n ∧ Turn (X.blk s3 H3 scope ce fp) (wipe σ (own.map (·.2))) fp tn W m s' := by
        intro s' H' I' nx
        obtain ⟨m', lt, w'⟩ := less H' nx
        have stays : ∀ b ∈ fp, ∀ o, s7.heap.get? b = some o → s'.heap.get? b = some o ∧ H' b = none := fun b hb o e =>
          have z := I'.pin (b, o) (List.mem_append_right _ (List.mem_append_right _ (mem_pinsAt hb e)))
          ⟨z.1, z.2.1⟩
        refine ⟨m', lt, i + 1, H', (I'.unpinned (pins := [])).weak (by rw [← same, wipe_length]) (fun j v e => ?_), T.keep _ _ _ st7 fun b hb o e => (stays b hb o e).1, fun b hb => ?_, w'⟩
        · rw [← same] at e; exact (wipe_some e).1
        · obtain ⟨o, e, _⟩ := T.obj _ _ st7 b hb
          exact (stays b hb o e).2
      cases b with
      | false => exact next I9 q9
      | true =>
        refine thnF (pe.run _ s9 σ8 H9 _ I9 q9) fun z s10 ⟨yv, H10, I10, r10, q10⟩ => ?_
        refine thnF (mt_saddK _ s10 σ8 H10 (.ref D) [yv] (.ref D) [z] _ I10 rfl (.cons r10 .nil) q10) fun v s11 ⟨_, H11, I11, _, nx⟩ => ?_
        exact next I11 nx
/-- len of a set of texts or integers -/
theorem call_lenK : CallR X (.builtin "len") (fun xs H Q => ∃ (a : Addr) (S : Key → Bool) (n : Nat), xs = [.ref a] ∧ H a = some (SetK X.prog X.w a S n) ∧ Q (.int n) H) := by
  intro pins s σ H xs us Q I r h
  obtain ⟨a, S, n, rfl, ha, q⟩ := h
  cases r with
  | cons r rr =>
    cases rr
    cases r
    obtain ⟨o, es, ep, t, ho, hex, hd, _, _, hb, hf, hn⟩ := setK_get I ha
    subst hn
    have small : (es.size : Int) < 2 ^ 63 := by
      have e : scanBound < 2 ^ 63 := by decide +kernel
      have e2 : es.size < 2 ^ 63 := Nat.lt_trans hb e
      exact_mod_cast e2
    exact call_len_set ho hex hd hf small ⟨.int es.size, H, I.tok _, ⟨_, rfl⟩, q⟩
end
/-- over a list that the block leaves as it is -/
theorem sck_list {P : Program} {w : World} {K : PySem.W.Frag} {a : Addr} {xs : List V} {g : TG} {tt : TT} {te : TE} {vs : List Nat} {σ : L2.St} {H1 : Hp} {D : Addr} {Qd : Hp → Prop} (Pv : Nat → Hp → Prop) (h0 : Pv 0 (upd H1 D (SetK P w D (fun _ => false) 0)))
    (hl : ∀ i H, i ≤ xs.length → Pv i H → SqL K H a xs)
    (hs : ∀ i x H, xs[i]? = some x → Pv i H → g x (wipe σ vs) H fun σ2 H2 => wipe σ2 vs = wipe σ vs ∧ tt σ2 H2 fun b H3 => if b = true then te σ2 H3 fun y H4 => rSAddK P w (.ref D) [y] H4 fun _ H5 => Pv (i + 1) H5 else Pv (i + 1) H3) (hd : ∀ H, Pv xs.length H → Qd H) :
    ∃ W : Nat → Nat → Hp → Prop, (∃ m, W 0 m (upd H1 D (SetK P w D (fun _ => false) 0))) ∧ ∀ i m H, W i m H →
      ((Itl K a).stop i H ∧ Qd H) ∨ ((Itl K a).go i H ∧ ∃ Nx : Hp → Prop, (∀ H', Nx H' → ∃ m', m' < m ∧ W (i + 1) m' H') ∧ ∀ x H', (Itl K a).yld i H x H' → g x (wipe σ vs) H' fun σ2 H2 => wipe σ2 vs = wipe σ vs ∧ tt σ2 H2 fun b H3 =>
        if b = true then te σ2 H3 fun y H4 => rSAddK P w (.ref D) [y] H4 fun _ H5 => Nx H5 else Nx H3) := by
  refine ⟨fun i m H => m + i = xs.length ∧ Pv i H, ⟨xs.length, rfl, h0⟩, fun i m H h => ?_⟩
  obtain ⟨hm, p⟩ := h
  have q := hl i H (by omega) p
  cases m with
  | zero =>
    have e : i = xs.length := by omega
    subst e
    exact .inl ⟨⟨xs, q, Nat.le_refl _⟩, hd H p⟩
  | succ m =>
    have lt : i < xs.length := by omega
    refine .inr ⟨⟨xs, xs[i], q, List.getElem?_eq_getElem lt⟩, Pv (i + 1), fun H' p' => ⟨m, Nat.lt_succ_self m, by omega, p'⟩, fun x H' y => ?_⟩
    obtain ⟨rfl, y⟩ := y
    exact hs i x _ (y xs q) p
end Me
set_option maxHeartbeats 8000000
namespace Me
open PySem L2


section
variable {P : Program} {w : World} {K : PySem.W.Frag} {mg : Str → Option Value} {base : Heap} {a : Ad}
def spOneName (K : PySem.W.Frag) : Sp := fun vs H Q _ => ∃ A p C dx fs z, vs = [.ref A] ∧ H A = some (.lst [.ref p]) ∧ H p = some (.ins C dx fs) ∧ Cls K C ∧ NoAttr K C "name" ∧ fs.lookup ("name" : Str) = some (.str z) ∧ ∀ H', Same H H' → Q (.bl true) H'
theorem ok_unlike1 (T : Txt K mg a) : FnOk P w K mg base CX0 1 a.have_unlike_names.f a.have_unlike_names.fd ["things"] (spOneName K) := by
  have sc : FnScope ["things", "thing"] ["things"] (defScope (top 25)) := ⟨rfl, rfl, rfl, by decide +kernel, rfl, by decide +kernel, by decide +kernel⟩
  refine T.have_unlike_names.ok sc (fun vs H Q E h => ?_) (fun cdv A outer s H vs Q E hr h => ?_)
  · obtain ⟨A, p, C, dx, fs, z, rfl, _⟩ := h
    rfl
  · obtain ⟨A, p, C, dx, fs, z, rfl, hA, hp, cl, no, hz, k⟩ := h
    refine ⟨_, (pss_one (ps_ret (pe_cmpR op_eq (pe_callB call_lenK (by rfl) T.len PySem.boot_len (pa_cons (pe_scK (te := tFld K (tVar 1) "name") (own := [("thing", 1)]) (g := gName 1) (by rfl) sc.nd (pi_list (pv 0)) (blkOk_by (own := [("thing", 1)]) (N := ["things", "thing"]) (sc := defScope (top 25)) (by decide +kernel)) (fun _ _ _ _ _ => pg_name (i := 1) sc.nd rfl (Or.inl rfl)) (fun _ _ _ _ _ => pts_nil) (fun _ _ _ _ _ => (by exact (pe_fld (pv 1) rfl)))) pa_nil)) (pe_callB call_len_seq (by rfl) T.len PySem.boot_len (pa_cons (pv 0) pa_nil)) (nomark _)))), ?_⟩
    walk_at "go"
    refine ⟨_, rfl, A, rfl, ⟨_, SqL.of hA⟩, fun D nD => ?_⟩
    have nA : A ≠ D := ne_of_none hA nD
    have np : p ≠ D := ne_of_none hp nD
    refine sck_list (xs := [.ref p]) (fun i H' => (i = 0 ∧ H' = upd H D (SetK P w D (fun _ => false) 0)) ∨ (i = 1 ∧ H' = upd H D (SetK P w D (fun j => false || decide (j = .inr z)) 1))) (.inl ⟨rfl, rfl⟩) ?_ ?_ ?_
    · rintro i H1 _ (⟨_, rfl⟩ | ⟨_, rfl⟩)
      · exact SqL.of (by rw [upd_ne nA]; exact hA)
      · exact SqL.of (by rw [upd_ne nA]; exact hA)
    · rintro i x H1 hx (⟨rfl, rfl⟩ | ⟨rfl, rfl⟩)
      · cases (show V.ref p = x from Option.some.inj hx)
        refine ⟨rfl, ?_⟩
        unfold tYes
        with_reducible refine L2.iteT ?_
        refine i_fld ?_
        refine ⟨_, rfl, p, C, dx, fs, .str z, rfl, by rw [upd_ne np]; exact hp, cl, no, hz, ?_⟩
        refine ⟨D, .inr z, _, 0, rfl, rfl, upd_same, by decide, .inr ⟨rfl, ?_⟩⟩
        rw [upd_upd]; rfl
      · cases hx
    · rintro H1 (⟨e, _⟩ | ⟨_, rfl⟩)
      · cases e
      · refine ⟨D, _, 1, rfl, upd_same, ?_⟩
        walk_at "go"
        have e : decide (V.int ((1 : Nat) : Int) = V.int (([V.ref p].length : Nat) : Int)) = true := decide_eq_true rfl
        rw [e]
        exact k _ (same_new same_rfl nD)
end
end Me
set_option maxHeartbeats 8000000
namespace Me
open PySem L2


/-- for i, x in enumerate(list), the list stays -/
theorem for_enum {K : PySem.W.Frag} {a : Addr} {xs : List V} {g : TG} {tb : TS} {D : Ends} {σ : L2.St} {H : Hp} (Pv : Nat → L2.St → Hp → Prop) (h0 : Pv 0 σ H) (hl : ∀ i σ H, i ≤ xs.length → Pv i σ H → SqL K H a xs)
    (hs : ∀ i x σ H T, xs[i]? = some x → Pv i σ H → H T = none → g (.ref T) σ (upd H T (.tup [.int (i : Nat), x])) fun σ2 H2 => tb { D with nx := Pv (i + 1), ct := Pv (i + 1), bk := D.nx } σ2 H2) (hd : ∀ σ H, Pv xs.length σ H → D.nx σ H) :
    ∃ W : Nat → Nat → L2.St → Hp → Prop, (∃ m, W 0 m σ H) ∧ ∀ i m σ H, W i m σ H →
      ((Ite K a).stop i H ∧ D.nx σ H) ∨ ((Ite K a).go i H ∧ ∃ N : L2.St → Hp → Prop, (∀ σ' H', N σ' H' → ∃ m', m' < m ∧ W (i + 1) m' σ' H') ∧ ∀ x H', (Ite K a).yld i H x H' → g x σ H' fun σ2 H2 => tb { D with nx := N, ct := N, bk := D.nx } σ2 H2) := by
  refine ⟨fun i m σ H => m + i = xs.length ∧ Pv i σ H, ⟨xs.length, rfl, h0⟩, fun i m σ H h => ?_⟩
  obtain ⟨hm, p⟩ := h
  have q := hl i σ H (by omega) p
  cases m with
  | zero =>
    have e : i = xs.length := by omega
    subst e
    exact .inl ⟨⟨xs, q, Nat.le_refl _⟩, hd σ H p⟩
  | succ m =>
    have lt : i < xs.length := by omega
    refine .inr ⟨⟨xs, xs[i], q, List.getElem?_eq_getElem lt⟩, Pv (i + 1), fun σ' H' p' => ⟨m, Nat.lt_succ_self m, by omega, p'⟩, fun x H' y => ?_⟩
    obtain ⟨T, z, rfl, nT, rfl, y⟩ := y
    exact hs i z σ H T (y xs q) p nT
section
variable {P : Program} {w : World} {K : PySem.W.Frag} {mg : Str → Option Value} {base : Heap} {a : Ad}
def spOneWord : Sp := fun vs H Q _ => ∃ A z, vs = [.ref A] ∧ H A = some (.lst [.str z]) ∧ ∀ H', Same H H' → Q (.bl true) H'
theorem ok_apart1 (T : Txt K mg a) : FnOk P w K mg base CX0 1 a.are_apart.f a.are_apart.fd ["words"] spOneWord := by
  have sc : FnScope ["words", "at", "word", "other"] ["words"] (defScope (top 26)) := ⟨rfl, rfl, rfl, by decide +kernel, rfl, by decide +kernel, by decide +kernel⟩
  refine T.are_apart.ok sc (fun vs H Q E h => ?_) (fun cdv A outer s H vs Q E hr h => ?_)
  · obtain ⟨A, z, rfl, _⟩ := h
    rfl
  · obtain ⟨A, z, rfl, hA, k⟩ := h
    refine ⟨_, (pss_cons (ps_for PassesOwn.never rfl (pi_enum rfl T.enumerate (pa_cons (pv 0) pa_nil)) (pg_tup (by rfl) (pgs_cons (pg_name (i := 1) sc.nd rfl (by first | exact Or.inl rfl | exact Or.inr rfl)) (pgs_cons (pg_name (i := 2) sc.nd rfl (by first | exact Or.inl rfl | exact Or.inr rfl)) pgs_nil)))
      (pss_one (ps_for PassesOwn.never rfl (pi_list (pe_slice sl_list (pv 0) (po_some (pe_op op_add (pv 1) pe_int)) po_none)) (pg_name (i := 3) sc.nd rfl (by first | exact Or.inl rfl | exact Or.inr rfl))
      (pss_one (ps_if (PW.pt (pw_or (pt_val (pe_m1 F.slot_str_startswith F.type_str_startswith mt_startswith (pv 2) (pv 3) rfl rfl rfl)) (pw_or1 (pt_val (pe_m1 F.slot_str_startswith F.type_str_startswith mt_startswith (pv 3) (pv 2) rfl rfl rfl)))))
      (pss_one (ps_ret pe_bl))
      pss_nil)))))
      (pss_one (ps_ret pe_bl))), ?_⟩
    walk_at "go"
    refine ⟨_, rfl, A, _, rfl, SqL.of hA, ?_⟩
    refine for_enum (xs := [.str z]) (fun i σ H' => Same H H' ∧ ((i = 0 ∧ σ = L2.start ["words", "at", "word", "other"] [.ref A]) ∨ (i = 1 ∧ ∃ x y z, σ = [some (.ref A), x, y, z]))) ⟨same_rfl, .inl ⟨rfl, rfl⟩⟩ ?_ ?_ ?_
    · rintro i σ H1 _ ⟨s1, _⟩
      exact SqL.of (s1 _ _ hA)
    · rintro i x σ H1 t hx ⟨s1, (⟨rfl, rfl⟩ | ⟨rfl, _⟩)⟩ nt
      · cases (show V.str z = x from Option.some.inj hx)
        have s2 := same_new (o := .tup [.int ((0 : Nat) : Int), .str z]) s1 nt
        refine ⟨t, _, rfl, SqT.of upd_same, rfl, _, _, rfl, ?_⟩
        walk_at "go"
        refine ⟨_, _, rfl, ?_⟩
        walk_at "go"
        refine ⟨rfl, ?_⟩
        refine ⟨_, rfl, _, rfl, _, _, rfl, rfl, _, rfl, A, _, rfl, SqL.of (s2 _ _ hA), fun L nL => ?_⟩
        have s3 := same_new (o := .lst (cutV [V.str z] (some (((0 : Nat) : Int) + 1)) none)) s2 nL
        refine ⟨L, rfl, ⟨_, SqL.of upd_same⟩, ?_⟩
        refine for_list (xs := []) (fun _ σ H' => Same H H' ∧ σ = [some (.ref A), some (.int ((0 : Nat) : Int)), some (.str z), none] ∧ H' L = some (.lst [])) ⟨s3, rfl, upd_same⟩ ?_ ?_ ?_
        · rintro i σ H2 _ ⟨_, _, e⟩
          exact SqL.of e
        · rintro i x σ H2 hx
          cases hx
        · rintro σ H2 ⟨s4, rfl, _⟩
          exact ⟨s4, .inr ⟨rfl, _, _, _, rfl⟩⟩
      · cases hx
    · rintro σ H1 ⟨s1, (⟨e, _⟩ | ⟨_, x, y, u, rfl⟩)⟩
      · cases e
      · walk_at "go"
        exact k _ s1
end
end Me
set_option maxHeartbeats 8000000
namespace Me
open PySem L2


/-- [.. for x in a list of one thing] -/
theorem one_lc {K : PySem.W.Frag} {te : TE} {σ : L2.St} {H : Hp} {Q : VK} {A : Addr} {x v : V} (h0 : σ[0]? = some (some (.ref A))) (hA : H A = some (.lst [x])) (hw : wipe ((wipe σ [1]).set 1 (some x)) [1] = wipe σ [1])
    (st : ∀ H1 (R : VK), Same H H1 → (∀ H4, Same H1 H4 → R v H4) → te ((wipe σ [1]).set 1 (some x)) H1 R)
    (k : ∀ D H', Same H H' → H' D = some (.lst [v]) → Q (.ref D) H') : tLc (iList K (tVar 0)) (gName 1) tYes te [1] σ H Q := by
  refine ⟨_, h0, A, rfl, ⟨_, SqL.of hA⟩, fun D nD => ?_⟩
  refine lc_list (xs := [x]) (fun i H' => Same H H' ∧ ((i = 0 ∧ H' D = some (.lst [])) ∨ (i = 1 ∧ H' D = some (.lst [v])))) ⟨same_new same_rfl nD, .inl ⟨rfl, upd_same⟩⟩ ?_ ?_ ?_
  · rintro i H1 _ ⟨s1, _⟩
    exact SqL.of (s1 _ _ hA)
  · rintro i y H1 hy ⟨s1, (⟨rfl, e⟩ | ⟨rfl, _⟩)⟩
    · cases (show x = y from Option.some.inj hy)
      refine ⟨hw, ?_⟩
      unfold tYes
      with_reducible refine L2.iteT ?_
      refine st H1 _ s1 fun H4 s2 => ?_
      refine ⟨[], s2 _ _ e, by decide, ?_, .inr ⟨rfl, upd_same⟩⟩
      intro b o hb
      rw [upd_ne (ne_of_none hb nD)]
      exact s2 _ _ (s1 _ _ hb)
    · cases hy
  · rintro H1 ⟨s1, (⟨e, _⟩ | ⟨_, e⟩)⟩
    · cases e
    · exact k D H1 s1 e
section
variable {P : Program} {w : World} {K : PySem.W.Frag} {mg : Str → Option Value} {base : Heap} {a : Ad}
def spWays1 (a : Ad) : Sp := fun vs H Q _ => ∃ A p dx fs z y, vs = [.ref A] ∧ H A = some (.lst [.ref p]) ∧ H p = some (.ins (a.C 5) dx fs) ∧ fs.lookup ("name" : Str) = some (.str z) ∧ fs.lookup ("word" : Str) = some (.str y) ∧ ∀ H', Same H H' → Q (.bl true) H'
theorem ok_ways1 (T : Txt K mg a) : FnOk P w K mg base CX0 2 a.are_ways.f a.are_ways.fd ["thing"] (spWays1 a) := by
  have G_have_unlike_names : FnOk P w K mg base CX0 1 a.have_unlike_names.f a.have_unlike_names.fd ["things"] (spOneName K) := ok_unlike1 T
  have G_are_apart : FnOk P w K mg base CX0 1 a.are_apart.f a.are_apart.fd ["words"] spOneWord := ok_apart1 T
  have sc : FnScope ["thing", "way"] ["thing"] (defScope (top 23)) := ⟨rfl, rfl, rfl, by decide +kernel, rfl, by decide +kernel, by decide +kernel⟩
  refine T.are_ways.ok sc (fun vs H Q E h => ?_) (fun cdv A outer s H vs Q E hr h => ?_)
  · obtain ⟨A, p, dx, fs, z, y, rfl, _⟩ := h
    rfl
  · obtain ⟨A, p, dx, fs, z, y, rfl, hA, hp, hz, hy, k⟩ := h
    have kc := T.kc 5 (by decide)
    refine ⟨_, (pss_cons (ps_if (PW.pt (pw_or (pt_not (pt_val (pe_callB call_isiT (by rfl) T.isinstance (by decide +kernel) (pa_cons (pv 0) (pa_cons (pe_tup (pa_cons (pe_bltn (v := .ty "list") (by rfl) T.list (by decide +kernel) rfl) (pa_cons (pe_bltn (v := .ty "tuple") (by rfl) T.tuple (by decide +kernel) rfl) pa_nil))) pa_nil))))) (pw_or1 (pt_not (pt_chain op_le op_le pe_int (pe_callB call_len_seq (by rfl) T.len PySem.boot_len (pa_cons (pv 0) pa_nil)) pe_int)))))
      (pss_one (ps_ret pe_bl))
      pss_nil)
      (pss_cons (ps_if (pt_not (pt_val (pe_callB (cr_all rfl) (by rfl) T.all (by decide +kernel) (pa_cons (pe_lc (te := tCB (rIsiT K) (tCons (tVar 1) (tCons (tTup (tCons (tC (.ref (a.C 5))) (tCons (tC (.ref (a.C 6))) tNil))) tNil))) (own := [("way", 1)]) (g := gName 1) (by rfl) sc.nd (pi_list (pv 0)) (blkOk_by (own := [("way", 1)]) (N := ["thing", "way"]) (sc := defScope (top 23)) (by decide +kernel)) (fun _ _ _ _ _ => pg_name (i := 1) sc.nd rfl (Or.inl rfl)) (fun _ _ _ _ _ => pts_nil) (fun _ _ _ _ _ => (by exact (pe_callB call_isiT (by rfl) T.isinstance (by decide +kernel) (pa_cons (pv 1) (pa_cons (pe_tup (pa_cons (pe_glob (v := .ref (a.C 5)) rfl (T.kc 5 (by decide)).gl rfl) (pa_cons (pe_glob (v := .ref (a.C 6)) rfl (T.kc 6 (by decide)).gl rfl) pa_nil))) pa_nil)))))) pa_nil))))
      (pss_one (ps_ret pe_bl))
      pss_nil)
      (pss_cons (ps_if (pt_not (pt_val (pe_callB (cr_any rfl) (by rfl) T.any (by decide +kernel) (pa_cons (pe_lc (te := tCB (rIsi K) (tCons (tVar 1) (tCons (tC (.ref (a.C 5))) tNil))) (own := [("way", 1)]) (g := gName 1) (by rfl) sc.nd (pi_list (pv 0)) (blkOk_by (own := [("way", 1)]) (N := ["thing", "way"]) (sc := defScope (top 23)) (by decide +kernel)) (fun _ _ _ _ _ => pg_name (i := 1) sc.nd rfl (Or.inl rfl)) (fun _ _ _ _ _ => pts_nil) (fun _ _ _ _ _ => (by exact (pe_callB call_isi (by rfl) T.isinstance (by decide +kernel) (pa_cons (pv 1) (pa_cons (pe_glob (v := .ref (a.C 5)) rfl (T.kc 5 (by decide)).gl rfl) pa_nil)))))) pa_nil))))
      (pss_one (ps_ret pe_bl))
      pss_nil)
      (pss_one (ps_ret (pe_and (pe_call G_have_unlike_names (hr.mono (by first | decide | omega)) rfl T.have_unlike_names.mg T.have_unlike_names.kp T.have_unlike_names.b .nil pass0 (pa_cons (pv 0) pa_nil)) (pe_one (pe_call G_are_apart (hr.mono (by first | decide | omega)) rfl T.are_apart.mg T.are_apart.kp T.are_apart.b .nil pass0 (pa_cons (pe_lc (te := tFld K (tVar 1) "word") (own := [("way", 1)]) (g := gName 1) (by rfl) sc.nd (pi_list (pv 0)) (blkOk_by (own := [("way", 1)]) (N := ["thing", "way"]) (sc := defScope (top 23)) (by decide +kernel)) (fun _ _ _ _ _ => pg_name (i := 1) sc.nd rfl (Or.inl rfl)) (fun _ _ _ _ _ => pts_nil) (fun _ _ _ _ _ => (by exact (pe_fld (pv 1) rfl)))) pa_nil))))))))), ?_⟩
    walk_at "go"
    rename_i tp ntp
    have s1 := same_new (o := .tup [.ty "list", .ty "tuple"]) same_rfl ntp
    refine ⟨_, tp, _, .type "list", [.type "list", .type "tuple"], _, rfl, upd_same, .cons (.ty _) (.cons (.ty _) .nil), .base (.lst (s1 _ _ hA)), kitAny_or (kit_ty kb_list_list) (kitAny_or (kit_ty kb_list_tuple) rfl), ?_⟩
    generalize upd H tp (.tup [.ty "list", .ty "tuple"]) = H1 at s1
    refine ⟨_, rfl, i_no rfl ?_⟩
    walk_at "go"
    refine i_chain ?_
    walk_at "go"
    refine ⟨A, _, rfl, .inl (SqL.of (s1 _ _ hA)), ?_⟩
    walk_at "go"
    refine i_yes (decide_eq_true (by show (1 : Int) ≤ ((1 : Nat) : Int); decide)) ?_
    walk_at "go"
    refine i_no (by rw [decide_eq_true (by show ((1 : Nat) : Int) ≤ 12; decide)]; rfl) ?_
    walk_at "go"
    refine one_lc (x := .ref p) (v := .bl true) rfl (s1 _ _ hA) rfl (fun H2 R s2 kR => ?_) (fun D2 H2 s2 h2 => ?_)
    · walk_at "go"
      rename_i tp2 ntp2
      have s3 := same_new (o := .tup [.ref (a.C 5), .ref (a.C 6)]) same_rfl ntp2
      exact i_isT T [5, 6] (by decide) (.ins (by decide) (s3 _ _ (s2 _ _ (s1 _ _ hp)))) upd_same (kR _ s3)
    walk_at "go"
    refine ⟨D2, [true], rfl, SqL.of h2, ?_⟩
    walk_at "go"
    refine i_no rfl ?_
    walk_at "go"
    have s12 := s1.trans s2
    refine one_lc (x := .ref p) (v := .bl true) rfl (s12 _ _ hA) rfl (fun H3 R s3 kR => ?_) (fun D3 H3 s3 h3 => ?_)
    · walk_at "go"
      exact i_isC T (by decide) (.ins (by decide) (s3 _ _ (s12 _ _ hp))) (kR _ same_rfl)
    walk_at "go"
    refine ⟨D3, [true], rfl, SqL.of h3, ?_⟩
    walk_at "go"
    refine i_no rfl ?_
    have s13 := s12.trans s3
    walk_at "go"
    refine ⟨A, p, _, dx, fs, z, rfl, s13 _ _ hA, s13 _ _ hp, kc.cl, kc.no _ (by decide), hz, fun H4 s4 => ?_⟩
    have s14 := s13.trans s4
    refine ⟨_, rfl, i_yes rfl ?_⟩
    walk_at "go"
    refine one_lc (x := .ref p) (v := .str y) rfl (s14 _ _ hA) rfl (fun H5 R s5 kR => ?_) (fun D5 H5 s5 h5 => ?_)
    · exact ⟨_, rfl, p, _, dx, fs, _, rfl, s5 _ _ (s14 _ _ hp), kc.cl, kc.no _ (by decide), hy, kR _ same_rfl⟩
    walk_at "go"
    exact ⟨D5, y, rfl, h5, fun H6 s6 => k _ ((s14.trans s5).trans s6)⟩
end
end Me
set_option maxHeartbeats 8000000
namespace Me
open PySem L2


section
variable {P : Program} {w : World} {K : PySem.W.Frag} {mg : Str → Option Value} {base : Heap} {a : Ad}
def spParts1 (a : Ad) : Sp := fun vs H Q _ => ∃ A p dx fs z, vs = [.ref A] ∧ H A = some (.lst [.ref p]) ∧ H p = some (.ins (a.C 7) dx fs) ∧ fs.lookup ("name" : Str) = some (.str z) ∧ ∀ H', Same H H' → Q (.bl true) H'
theorem ok_parts1 (T : Txt K mg a) : FnOk P w K mg base CX0 2 a.are_parts.f a.are_parts.fd ["thing"] (spParts1 a) := by
  have G_have_unlike_names : FnOk P w K mg base CX0 1 a.have_unlike_names.f a.have_unlike_names.fd ["things"] (spOneName K) := ok_unlike1 T
  have sc : FnScope ["thing", "part"] ["thing"] (defScope (top 24)) := ⟨rfl, rfl, rfl, by decide +kernel, rfl, by decide +kernel, by decide +kernel⟩
  refine T.are_parts.ok sc (fun vs H Q E h => ?_) (fun cdv A outer s H vs Q E hr h => ?_)
  · obtain ⟨A, p, dx, fs, z, rfl, _⟩ := h
    rfl
  · obtain ⟨A, p, dx, fs, z, rfl, hA, hp, hz, k⟩ := h
    have kc := T.kc 7 (by decide)
    refine ⟨_, (pss_cons (ps_if (PW.pt (pw_or (pt_not (pt_val (pe_callB call_isiT (by rfl) T.isinstance (by decide +kernel) (pa_cons (pv 0) (pa_cons (pe_tup (pa_cons (pe_bltn (v := .ty "list") (by rfl) T.list (by decide +kernel) rfl) (pa_cons (pe_bltn (v := .ty "tuple") (by rfl) T.tuple (by decide +kernel) rfl) pa_nil))) pa_nil))))) (pw_or1 (pt_not (pt_chain op_le op_le pe_int (pe_callB call_len_seq (by rfl) T.len PySem.boot_len (pa_cons (pv 0) pa_nil)) pe_int)))))
      (pss_one (ps_ret pe_bl))
      pss_nil)
      (pss_cons (ps_if (pt_not (pt_val (pe_callB (cr_all rfl) (by rfl) T.all (by decide +kernel) (pa_cons (pe_lc (te := tCB (rIsiT K) (tCons (tVar 1) (tCons (tTup (tCons (tC (.ref (a.C 7))) (tCons (tC (.ref (a.C 8))) tNil))) tNil))) (own := [("part", 1)]) (g := gName 1) (by rfl) sc.nd (pi_list (pv 0)) (blkOk_by (own := [("part", 1)]) (N := ["thing", "part"]) (sc := defScope (top 24)) (by decide +kernel)) (fun _ _ _ _ _ => pg_name (i := 1) sc.nd rfl (Or.inl rfl)) (fun _ _ _ _ _ => pts_nil) (fun _ _ _ _ _ => (by exact (pe_callB call_isiT (by rfl) T.isinstance (by decide +kernel) (pa_cons (pv 1) (pa_cons (pe_tup (pa_cons (pe_glob (v := .ref (a.C 7)) rfl (T.kc 7 (by decide)).gl rfl) (pa_cons (pe_glob (v := .ref (a.C 8)) rfl (T.kc 8 (by decide)).gl rfl) pa_nil))) pa_nil)))))) pa_nil))))
      (pss_one (ps_ret pe_bl))
      pss_nil)
      (pss_one (ps_ret (pe_and (pe_callB call_isi (by rfl) T.isinstance (by decide +kernel) (pa_cons (pe_ix ix_list (pv 0) (pe_un un_neg pe_int) (fun _ _ => rfl)) (pa_cons (pe_glob (v := .ref (a.C 7)) rfl (T.kc 7 (by decide)).gl rfl) pa_nil))) (pe_one (pe_call G_have_unlike_names (hr.mono (by first | decide | omega)) rfl T.have_unlike_names.mg T.have_unlike_names.kp T.have_unlike_names.b .nil pass0 (pa_cons (pv 0) pa_nil)))))))), ?_⟩
    walk_at "go"
    rename_i tp ntp
    have s1 := same_new (o := .tup [.ty "list", .ty "tuple"]) same_rfl ntp
    refine ⟨_, tp, _, .type "list", [.type "list", .type "tuple"], _, rfl, upd_same, .cons (.ty _) (.cons (.ty _) .nil), .base (.lst (s1 _ _ hA)), kitAny_or (kit_ty kb_list_list) (kitAny_or (kit_ty kb_list_tuple) rfl), ?_⟩
    generalize upd H tp (.tup [.ty "list", .ty "tuple"]) = H1 at s1
    refine ⟨_, rfl, i_no rfl ?_⟩
    walk_at "go"
    refine i_chain ?_
    walk_at "go"
    refine ⟨A, _, rfl, .inl (SqL.of (s1 _ _ hA)), ?_⟩
    walk_at "go"
    refine i_yes (decide_eq_true (by show (1 : Int) ≤ ((1 : Nat) : Int); decide)) ?_
    walk_at "go"
    refine i_no (by rw [decide_eq_true (by show ((1 : Nat) : Int) ≤ 8; decide)]; rfl) ?_
    walk_at "go"
    refine one_lc (x := .ref p) (v := .bl true) rfl (s1 _ _ hA) rfl (fun H2 R s2 kR => ?_) (fun D2 H2 s2 h2 => ?_)
    · walk_at "go"
      rename_i tp2 ntp2
      have s3 := same_new (o := .tup [.ref (a.C 7), .ref (a.C 8)]) same_rfl ntp2
      exact i_isT T [7, 8] (by decide) (.ins (by decide) (s3 _ _ (s2 _ _ (s1 _ _ hp)))) upd_same (kR _ s3)
    walk_at "go"
    refine ⟨D2, [true], rfl, SqL.of h2, ?_⟩
    walk_at "go"
    refine i_no rfl ?_
    walk_at "go"
    have s12 := s1.trans s2
    refine i_ixl (s12 _ _ hA) (v := .ref p) rfl ?_
    walk_at "go"
    refine i_isC T (by decide) (.ins (by decide) (s12 _ _ hp)) ?_
    refine ⟨_, rfl, i_yes (decide_eq_true rfl) ?_⟩
    walk_at "go"
    exact ⟨A, p, _, dx, fs, z, rfl, s12 _ _ hA, s12 _ _ hp, kc.cl, kc.no _ (by decide), hz, fun H4 s4 => k _ (s12.trans s4)⟩
def spChoice (a : Ad) : Sp := fun vs H Q E => ∃ x dx A p dy fs z y, vs = [.ref x, .ref A] ∧ H x = some (.ins (a.C 9) dx []) ∧ H A = some (.lst [.ref p]) ∧ H p = some (.ins (a.C 5) dy fs) ∧ fs.lookup ("name" : Str) = some (.str z) ∧ fs.lookup ("word" : Str) = some (.str y) ∧ ∀ H' t, Kept H x H' → H' x = some (.ins (a.C 9) dx [("ways", .ref t)]) → Q .non H'
theorem ok_Choice (T : Txt K mg a) : FnOk P w K mg base (L2.CX P w) 3 (a.I 9).f (a.I 9).fd ["self", "ways"] (spChoice a) := by
  have G_are_ways : FnOk P w K mg base CX0 2 a.are_ways.f a.are_ways.fd ["thing"] (spWays1 a) := ok_ways1 T
  have sc : FnScope ["self", "ways"] ["self", "ways"] (defScope (inClass (top 20) 0)) := ⟨rfl, rfl, rfl, by decide +kernel, rfl, by decide +kernel, by decide +kernel⟩
  refine ok0x T.I9 sc (fun vs H Q E h => ?_) (fun cdv A' outer s H vs Q E hr h => ?_)
  · obtain ⟨x, dx, A, rest, _, _, _, _, rfl, _⟩ := h
    rfl
  · obtain ⟨x, dx, A, p, dy, fs, z, y, rfl, hx, hA, hp, hz, hy, k⟩ := h
    have tk : Takes (cxOf (L2.CX P w) P w K mg base ["self", "ways"] "Choice.__init__" (defScope (inClass (top 20) 0)) (a.I 9).f cdv A' outer s H E) (fun cls d _ H => E cls d H) := takes_of rfl rfl rfl rfl
    have kc := T.kc 9 (by decide)
    refine ⟨_, (pss_cons (ps_if (pt_not (pt_val (pe_call G_are_ways (hr.mono (by first | decide | omega)) rfl T.are_ways.mg T.are_ways.kp T.are_ways.b .nil pass0 (pa_cons (pv 1) pa_nil))))
      (pss_one (ps_bad T.bad rfl (hr.mono (by decide)) tk))
      pss_nil)
      (pss_one (ps_fld (pv 0) (pe_callTy call_tuple_of (by rfl) T.tuple (by decide +kernel) (pa_cons (pv 1) pa_nil)) rfl))), ?_⟩
    walk_at "go"
    refine ⟨A, p, dy, fs, z, y, rfl, hA, hp, hz, hy, fun H1 s1 => ?_⟩
    refine ⟨_, rfl, i_no rfl ?_⟩
    walk_at "go"
    dsimp only
    refine i_sfld ?_
    walk_at "go"
    refine ⟨A, _, rfl, .inl ⟨SqL.of (s1 _ _ hA), fun t nt => ?_⟩⟩
    walk_at "go"
    refine ⟨x, _, dx, [], rfl, same_new s1 nt _ _ hx, kc.cl, kc.no _ (by decide), by decide, ?_⟩
    exact k _ t (Kept.upd fun b o _ e => same_new s1 nt b o e) upd_same
def spRow (a : Ad) : Sp := fun vs H Q E => ∃ x dx A p dy fs z, vs = [.ref x, .ref A] ∧ H x = some (.ins (a.C 10) dx []) ∧ H A = some (.lst [.ref p]) ∧ H p = some (.ins (a.C 7) dy fs) ∧ fs.lookup ("name" : Str) = some (.str z) ∧ ∀ H' t, Kept H x H' → H' x = some (.ins (a.C 10) dx [("parts", .ref t)]) → Q .non H'
theorem ok_Row (T : Txt K mg a) : FnOk P w K mg base (L2.CX P w) 3 (a.I 10).f (a.I 10).fd ["self", "parts"] (spRow a) := by
  have G_are_parts : FnOk P w K mg base CX0 2 a.are_parts.f a.are_parts.fd ["thing"] (spParts1 a) := ok_parts1 T
  have sc : FnScope ["self", "parts"] ["self", "parts"] (defScope (inClass (top 21) 0)) := ⟨rfl, rfl, rfl, by decide +kernel, rfl, by decide +kernel, by decide +kernel⟩
  refine ok0x T.I10 sc (fun vs H Q E h => ?_) (fun cdv A' outer s H vs Q E hr h => ?_)
  · obtain ⟨x, dx, A, rest, _, _, _, rfl, _⟩ := h
    rfl
  · obtain ⟨x, dx, A, p, dy, fs, z, rfl, hx, hA, hp, hz, k⟩ := h
    have tk : Takes (cxOf (L2.CX P w) P w K mg base ["self", "parts"] "Row.__init__" (defScope (inClass (top 21) 0)) (a.I 10).f cdv A' outer s H E) (fun cls d _ H => E cls d H) := takes_of rfl rfl rfl rfl
    have kc := T.kc 10 (by decide)
    refine ⟨_, (pss_cons (ps_if (pt_not (pt_val (pe_call G_are_parts (hr.mono (by first | decide | omega)) rfl T.are_parts.mg T.are_parts.kp T.are_parts.b .nil pass0 (pa_cons (pv 1) pa_nil))))
      (pss_one (ps_bad T.bad rfl (hr.mono (by decide)) tk))
      pss_nil)
      (pss_one (ps_fld (pv 0) (pe_callTy call_tuple_of (by rfl) T.tuple (by decide +kernel) (pa_cons (pv 1) pa_nil)) rfl))), ?_⟩
    walk_at "go"
    refine ⟨A, p, dy, fs, z, rfl, hA, hp, hz, fun H1 s1 => ?_⟩
    refine ⟨_, rfl, i_no rfl ?_⟩
    walk_at "go"
    dsimp only
    refine i_sfld ?_
    walk_at "go"
    refine ⟨A, _, rfl, .inl ⟨SqL.of (s1 _ _ hA), fun t nt => ?_⟩⟩
    walk_at "go"
    refine ⟨x, _, dx, [], rfl, same_new s1 nt _ _ hx, kc.cl, kc.no _ (by decide), by decide, ?_⟩
    exact k _ t (Kept.upd fun b o _ e => same_new s1 nt b o e) upd_same
end
end Me
set_option maxHeartbeats 8000000
namespace Me
open PySem L2


def isNum (a : Ad) (v : V) (H : Hp) : Prop := ∃ p dx, v = .ref p ∧ H p = some (.ins (a.C 1) dx [("low", .int (-3)), ("high", .int 5), ("width", .non)])
def isBit (a : Ad) (v : V) (H : Hp) : Prop := ∃ p dx, v = .ref p ∧ H p = some (.ins (a.C 2) dx [("many", .int 3)])
def isCal (a : Ad) (v : V) (H : Hp) : Prop := ∃ p dx, v = .ref p ∧ H p = some (.ins (a.C 3) dx [("name", .str "ab")])
def isIts (a : Ad) (v : V) (H : Hp) : Prop := ∃ p dx q dy, v = .ref p ∧ H p = some (.ins (a.C 4) dx [("item", .ref q), ("width", .int 2)]) ∧ H q = some (.ins (a.C 2) dy [("many", .int 1)])
def isNot (a : Ad) (v : V) (H : Hp) : Prop := ∃ p dx, v = .ref p ∧ H p = some (.ins (a.C 0) dx [])
/-- what the law draws as a kind -/
def ObjIs (a : Ad) (turn : Int) (v : V) (H : Hp) : Prop := (turn = 0 ∧ isNum a v H) ∨ (turn = 1 ∧ isBit a v H) ∨ (turn = 2 ∧ isCal a v H) ∨ (turn = 3 ∧ isIts a v H) ∨ (turn = 4 ∧ isNot a v H) ∨ (turn = 5 ∧ v = .non) ∨ (5 < turn ∧ v ≠ .non ∧ ∃ i, isK i [1, 2, 4, 3] = false ∧ i ≠ some 0 ∧ Itm a H v i)
section
variable {P : Program} {w : World} {K : PySem.W.Frag} {mg : Str → Option Value} {base : Heap} {a : Ad}
def spObj (a : Ad) : Sp := fun vs H Q _ => ∃ turn : Int, vs = [.int turn] ∧ 0 ≤ turn ∧ ∀ v H', Same H H' → ObjIs a turn v H' → Q v H'
theorem chk_0a : chkBad (.str "0") (.str "a") = none := by decide +kernel
theorem ok_obj (T : Txt K mg a) : FnOk P w K mg base CX0 6 a._law_object.f a._law_object.fd ["_law_turn"] (spObj a) := by
  have GI1 : FnOk P w K mg base (L2.CX P w) 3 (a.I 1).f (a.I 1).fd ["self", "low", "high", "width"] (spNum a) := ok_num T
  have GI2 : FnOk P w K mg base (L2.CX P w) 3 (a.I 2).f (a.I 2).fd ["self", "many"] (spBit a) := ok_bit T
  have GI3 : FnOk P w K mg base (L2.CX P w) 3 (a.I 3).f (a.I 3).fd ["self", "name"] (spCal a) := ok_cal T
  have GI4 : FnOk P w K mg base (L2.CX P w) 3 (a.I 4).f (a.I 4).fd ["self", "item", "width"] (spItm a) := ok_itm T
  have GI5 : FnOk P w K mg base (L2.CX P w) 4 (a.I 5).f (a.I 5).fd ["self", "word", "name", "kind"] (spWay a) := ok_Way T
  have GI6 : FnOk P w K mg base (L2.CX P w) 4 (a.I 6).f (a.I 6).fd ["self", "word", "name", "kind"] (spDoor a) := ok_Door T
  have GI7 : FnOk P w K mg base (L2.CX P w) 4 (a.I 7).f (a.I 7).fd ["self", "name", "kind"] (spPart a) := ok_Part T
  have GI8 : FnOk P w K mg base (L2.CX P w) 4 (a.I 8).f (a.I 8).fd ["self", "word", "name", "kind"] (spRoom a) := ok_Room T
  have GI9 : FnOk P w K mg base (L2.CX P w) 3 (a.I 9).f (a.I 9).fd ["self", "ways"] (spChoice a) := ok_Choice T
  have GI10 : FnOk P w K mg base (L2.CX P w) 3 (a.I 10).f (a.I 10).fd ["self", "parts"] (spRow a) := ok_Row T
  have sc : FnScope ["_law_turn"] ["_law_turn"] (defScope (top 36)) := ⟨rfl, rfl, rfl, by decide +kernel, rfl, by decide +kernel, by decide +kernel⟩
  refine T._law_object.ok sc (fun vs H Q E h => ?_) (fun cdv A outer s H vs Q E hr h => ?_)
  · obtain ⟨turn, rfl, _⟩ := h
    rfl
  · obtain ⟨turn, rfl, h0, k⟩ := h
    have s0 : Sh (.str "0") := fun z e => by injection e with e; rw [← e]; decide
    have sa : Sh (.str "a") := fun z e => by injection e with e; rw [← e]; decide
    refine ⟨_, (pss_cons (ps_if (pt_cmpR op_eq (pv 0) pe_int (nomark _))
      (pss_one (ps_ret (pe_make T.mk1 GI1 (hr.mono (by decide)) rfl (T.kc 1 (by decide)).gl T.Id1 (.cons (show RelV V.non Value.none from rfl) .nil) passF (pa_cons (pe_un un_neg pe_int) (pa_cons pe_int pa_nil)))))
      pss_nil)
      (pss_cons (ps_if (pt_cmpR op_eq (pv 0) pe_int (nomark _))
      (pss_one (ps_ret (pe_make T.mk2 GI2 (hr.mono (by decide)) rfl (T.kc 2 (by decide)).gl T.Ib2 .nil passF (pa_cons pe_int pa_nil))))
      pss_nil)
      (pss_cons (ps_if (pt_cmpR op_eq (pv 0) pe_int (nomark _))
      (pss_one (ps_ret (pe_make T.mk3 GI3 (hr.mono (by decide)) rfl (T.kc 3 (by decide)).gl T.Ib3 .nil passF (pa_cons pe_str pa_nil))))
      pss_nil)
      (pss_cons (ps_if (pt_cmpR op_eq (pv 0) pe_int (nomark _))
      (pss_one (ps_ret (pe_make T.mk4 GI4 (hr.mono (by decide)) rfl (T.kc 4 (by decide)).gl T.Ib4 .nil passF (pa_cons (pe_make T.mk2 GI2 (hr.mono (by decide)) rfl (T.kc 2 (by decide)).gl T.Ib2 .nil passF (pa_cons pe_int pa_nil)) (pa_cons pe_int pa_nil)))))
      pss_nil)
      (pss_cons (ps_if (pt_cmpR op_eq (pv 0) pe_int (nomark _))
      (pss_one (ps_ret (pe_mk0 (T.kc 0 (by decide)).mks T.ini0 (T.kc 0 (by decide)).kp (T.kc 0 (by decide)).gl)))
      pss_nil)
      (pss_cons (ps_if (pt_cmpR op_eq (pv 0) pe_int (nomark _))
      (pss_one (ps_ret pe_non))
      pss_nil)
      (pss_cons (ps_if (pt_cmpR op_eq (pv 0) pe_int (nomark _))
      (pss_one (ps_ret (pe_make T.mk9 GI9 (hr.mono (by decide)) rfl (T.kc 9 (by decide)).gl T.Ib9 .nil passF (pa_cons (pe_lst (pa_cons (pe_make T.mk5 GI5 (hr.mono (by decide)) rfl (T.kc 5 (by decide)).gl T.Ib5 .nil passF (pa_cons pe_str (pa_cons pe_str (pa_cons (pe_mk0 (T.kc 0 (by decide)).mks T.ini0 (T.kc 0 (by decide)).kp (T.kc 0 (by decide)).gl) pa_nil)))) pa_nil)) pa_nil))))
      pss_nil)
      (pss_cons (ps_if (pt_cmpR op_eq (pv 0) pe_int (nomark _))
      (pss_one (ps_ret (pe_make T.mk10 GI10 (hr.mono (by decide)) rfl (T.kc 10 (by decide)).gl T.Ib10 .nil passF (pa_cons (pe_lst (pa_cons (pe_make T.mk7 GI7 (hr.mono (by decide)) rfl (T.kc 7 (by decide)).gl T.Ib7 .nil passF (pa_cons pe_str (pa_cons (pe_make T.mk2 GI2 (hr.mono (by decide)) rfl (T.kc 2 (by decide)).gl T.Ib2 .nil passF (pa_cons pe_int pa_nil)) pa_nil))) pa_nil)) pa_nil))))
      pss_nil)
      (pss_cons (ps_if (pt_cmpR op_eq (pv 0) pe_int (nomark _))
      (pss_one (ps_ret (pe_make T.mk7 GI7 (hr.mono (by decide)) rfl (T.kc 7 (by decide)).gl T.Ib7 .nil passF (pa_cons pe_str (pa_cons (pe_make T.mk2 GI2 (hr.mono (by decide)) rfl (T.kc 2 (by decide)).gl T.Ib2 .nil passF (pa_cons pe_int pa_nil)) pa_nil)))))
      pss_nil)
      (pss_cons (ps_if (pt_cmpR op_eq (pv 0) pe_int (nomark _))
      (pss_one (ps_ret (pe_make T.mk8 GI8 (hr.mono (by decide)) rfl (T.kc 8 (by decide)).gl T.Ib8 .nil passF (pa_cons pe_str (pa_cons pe_str (pa_cons pe_non pa_nil))))))
      pss_nil)
      (pss_one (ps_ret (pe_make T.mk6 GI6 (hr.mono (by decide)) rfl (T.kc 6 (by decide)).gl T.Ib6 .nil passF (pa_cons pe_str (pa_cons pe_str (pa_cons pe_non pa_nil)))))))))))))))), ?_⟩
    walk_at "go"
    refine i_itei (fun e => ?_) (fun n0 => ?_)
    · walk_at "go"
      refine i_make ?_
      walk_at "go"
      intro x dx nx ndx ne
      refine ⟨x, dx, _, _, _, rfl, upd_same, .int _, .int _, .non, fun e1 H1 kp hx => ⟨rfl, ?_⟩, fun z e' => by cases e'⟩
      exact k _ _ (kp.same nx ndx) (.inl ⟨e, x, dx, rfl, hx⟩)
    walk_at "go"
    refine i_itei (fun e => ?_) (fun n1 => ?_)
    · walk_at "go"
      refine i_make ?_
      walk_at "go"
      intro x dx nx ndx ne
      refine ⟨x, dx, _, rfl, upd_same, .int _, fun e1 H1 kp hx => ⟨rfl, ?_⟩, fun z e' => by cases e'⟩
      exact k _ _ (kp.same nx ndx) (.inr (.inl ⟨e, x, dx, rfl, hx⟩))
    walk_at "go"
    refine i_itei (fun e => ?_) (fun n2 => ?_)
    · walk_at "go"
      refine i_make ?_
      walk_at "go"
      intro x dx nx ndx ne
      refine ⟨x, dx, _, rfl, upd_same, .str _, (fun z e => by injection e with e; rw [← e]; decide), fun e1 H1 kp hx => ⟨rfl, ?_⟩, fun z e' => by
        have : callBad (.str "ab") = none := by decide +kernel
        rw [this] at e'; cases e'⟩
      exact k _ _ (kp.same nx ndx) (.inr (.inr (.inl ⟨e, x, dx, rfl, hx⟩)))
    walk_at "go"
    refine i_itei (fun e => ?_) (fun n3 => ?_)
    · walk_at "go"
      refine i_make ?_
      walk_at "go"
      refine i_make ?_
      walk_at "go"
      intro x dx nx ndx ne
      refine ⟨x, dx, _, rfl, upd_same, .int _, fun e1 H1 kp hx => ⟨rfl, ?_⟩, fun z e' => by cases e'⟩
      have s1 := kp.same nx ndx
      walk_at "go"
      intro x2 dx2 nx2 ndx2 ne2
      refine ⟨x2, dx2, _, _, _, rfl, upd_same, .ins (by decide) (same2 nx2 ndx2 _ _ hx), .int _, fun e1 H2 kp2 hx2 => ⟨rfl, ?_⟩, fun z e' => by cases e'⟩
      exact k _ _ (s1.trans (kp2.same nx2 ndx2)) (.inr (.inr (.inr (.inl ⟨e, x2, dx2, x, dx, rfl, hx2, kp2.same nx2 ndx2 _ _ hx⟩))))
    walk_at "go"
    refine i_itei (fun e => ?_) (fun n4 => ?_)
    · walk_at "go"
      intro x dx nx ndx ne
      exact k _ _ (same2 nx ndx) (.inr (.inr (.inr (.inr (.inl ⟨e, x, dx, rfl, upd_same⟩)))))
    walk_at "go"
    refine i_itei (fun e => ?_) (fun n5 => ?_)
    · walk_at "go"
      exact k _ _ same_rfl (.inr (.inr (.inr (.inr (.inr (.inl ⟨e, rfl⟩))))))
    have n6 : 5 < turn := by omega
    have fin : ∀ p H' i, Same H H' → Itm a H' (.ref p) i → isK i [1, 2, 4, 3] = false → i ≠ some 0 → Q (.ref p) H' := fun p H' i s hi e e2 => k _ H' s (.inr (.inr (.inr (.inr (.inr (.inr ⟨n6, (by intro z; cases z), i, e, e2, hi⟩))))))
    walk_at "go"
    refine i_itei (fun e => ?_) (fun _ => ?_)
    · walk_at "go"
      refine i_make ?_
      walk_at "go"
      refine i_make ?_
      walk_at "go"
      intro x dx nx ndx ne
      have s1 := same2 (o := .own x) (o' := .ins (a.C 0) dx []) nx ndx
      have hx := upd_same (H := upd H dx (.own x)) (a := x) (o := .ins (a.C 0) dx [])
      generalize upd (upd H dx (.own x)) x (.ins (a.C 0) dx []) = H1 at s1 hx ⊢
      walk_at "go"
      intro x2 dx2 nx2 ndx2 ne2
      refine ⟨x2, dx2, _, _, _, _, rfl, upd_same, .str _, s0, .str _, sa, .ins (i := 0) (by decide) (same2 nx2 ndx2 _ _ hx), fun e1 H2 kp2 hx2 => ⟨rfl, ?_⟩, fun z e' => by
        have : wayBad (.str "0") (.str "a") (some 0) = none := by decide +kernel
        rw [this] at e'; cases e'⟩
      have s2 := s1.trans (kp2.same nx2 ndx2)
      walk_at "go"
      rename_i L nL
      have s3 := same_new (o := .lst [.ref x2]) s2 nL
      have hx3 := same_new (o := .lst [.ref x2]) same_rfl nL _ _ hx2
      intro x4 dx4 nx4 ndx4 ne4
      have s4 := same2 (o := .own x4) (o' := .ins (a.C 9) dx4 []) nx4 ndx4
      refine ⟨x4, dx4, L, x2, dx2, _, _, _, rfl, upd_same, s4 _ _ upd_same, s4 _ _ hx3, rfl, rfl, fun H5 t kp5 hx5 => ⟨rfl, ?_⟩⟩
      exact fin _ _ _ (s3.trans (kp5.same nx4 ndx4)) (.ins (i := 9) (by decide) hx5) (by decide) (by decide)
    walk_at "go"
    refine i_itei (fun e => ?_) (fun _ => ?_)
    · walk_at "go"
      refine i_make ?_
      walk_at "go"
      refine i_make ?_
      walk_at "go"
      refine i_make ?_
      walk_at "go"
      intro x dx nx ndx ne
      refine ⟨x, dx, _, rfl, upd_same, .int _, fun e1 H1 kp hx => ⟨rfl, ?_⟩, fun z e' => by cases e'⟩
      have s1 := kp.same nx ndx
      walk_at "go"
      intro x2 dx2 nx2 ndx2 ne2
      refine ⟨x2, dx2, _, _, _, rfl, upd_same, .str _, sa, .ins (i := 2) (by decide) (same2 nx2 ndx2 _ _ hx), fun e1 H2 kp2 hx2 => ⟨rfl, ?_⟩, fun z e' => by
        have : partBad (.str "a") (some 2) = none := by decide +kernel
        rw [this] at e'; cases e'⟩
      have s2 := s1.trans (kp2.same nx2 ndx2)
      walk_at "go"
      rename_i L nL
      have s3 := same_new (o := .lst [.ref x2]) s2 nL
      have hx3 := same_new (o := .lst [.ref x2]) same_rfl nL _ _ hx2
      intro x4 dx4 nx4 ndx4 ne4
      have s4 := same2 (o := .own x4) (o' := .ins (a.C 10) dx4 []) nx4 ndx4
      refine ⟨x4, dx4, L, x2, dx2, _, _, rfl, upd_same, s4 _ _ upd_same, s4 _ _ hx3, rfl, fun H5 t kp5 hx5 => ⟨rfl, ?_⟩⟩
      exact fin _ _ _ (s3.trans (kp5.same nx4 ndx4)) (.ins (i := 10) (by decide) hx5) (by decide) (by decide)
    walk_at "go"
    refine i_itei (fun e => ?_) (fun _ => ?_)
    · walk_at "go"
      refine i_make ?_
      walk_at "go"
      refine i_make ?_
      walk_at "go"
      intro x dx nx ndx ne
      refine ⟨x, dx, _, rfl, upd_same, .int _, fun e1 H1 kp hx => ⟨rfl, ?_⟩, fun z e' => by cases e'⟩
      have s1 := kp.same nx ndx
      walk_at "go"
      intro x2 dx2 nx2 ndx2 ne2
      refine ⟨x2, dx2, _, _, _, rfl, upd_same, .str _, sa, .ins (i := 2) (by decide) (same2 nx2 ndx2 _ _ hx), fun e1 H2 kp2 hx2 => ⟨rfl, ?_⟩, fun z e' => by
        have : partBad (.str "a") (some 2) = none := by decide +kernel
        rw [this] at e'; cases e'⟩
      exact fin _ _ _ (s1.trans (kp2.same nx2 ndx2)) (.ins (i := 7) (by decide) hx2) (by decide) (by decide)
    walk_at "go"
    refine i_itei (fun e => ?_) (fun _ => ?_)
    · walk_at "go"
      refine i_make ?_
      walk_at "go"
      intro x2 dx2 nx2 ndx2 ne2
      refine ⟨x2, dx2, _, _, _, _, rfl, upd_same, .str _, s0, .str _, sa, .th .non, fun e1 H2 kp2 hx2 => ⟨rfl, ?_⟩, fun z e' => by
        have : roomBad (.str "0") (.str "a") .non none = none := by unfold roomBad; rw [chk_0a]; rfl
        rw [this] at e'; cases e'⟩
      exact fin _ _ _ (kp2.same nx2 ndx2) (.ins (i := 8) (by decide) hx2) (by decide) (by decide)
    · walk_at "go"
      refine i_make ?_
      walk_at "go"
      intro x2 dx2 nx2 ndx2 ne2
      refine ⟨x2, dx2, _, _, _, _, rfl, upd_same, .str _, s0, .str _, sa, .th .non, fun e1 H2 kp2 hx2 => ⟨rfl, ?_⟩, fun z e' => by
        have : doorBad (.str "0") (.str "a") .non none = none := by unfold doorBad; rw [chk_0a]; rfl
        rw [this] at e'; cases e'⟩
      exact fin _ _ _ (kp2.same nx2 ndx2) (.ins (i := 6) (by decide) hx2) (by decide) (by decide)
end
end Me
set_option maxHeartbeats 8000000
namespace Me
open PySem L2


theorem isNum.same {a : Ad} {v : V} {H H' : Hp} (h : isNum a v H) (s : Same H H') : isNum a v H' := by obtain ⟨p, dx, e, h⟩ := h; exact ⟨p, dx, e, s _ _ h⟩
theorem isBit.same {a : Ad} {v : V} {H H' : Hp} (h : isBit a v H) (s : Same H H') : isBit a v H' := by obtain ⟨p, dx, e, h⟩ := h; exact ⟨p, dx, e, s _ _ h⟩
theorem isCal.same {a : Ad} {v : V} {H H' : Hp} (h : isCal a v H) (s : Same H H') : isCal a v H' := by obtain ⟨p, dx, e, h⟩ := h; exact ⟨p, dx, e, s _ _ h⟩
theorem isIts.same {a : Ad} {v : V} {H H' : Hp} (h : isIts a v H) (s : Same H H') : isIts a v H' := by obtain ⟨p, dx, q, dy, e, h, g⟩ := h; exact ⟨p, dx, q, dy, e, s _ _ h, s _ _ g⟩
theorem isNot.same {a : Ad} {v : V} {H H' : Hp} (h : isNot a v H) (s : Same H H') : isNot a v H' := by obtain ⟨p, dx, e, h⟩ := h; exact ⟨p, dx, e, s _ _ h⟩
theorem ObjIs.same {a : Ad} {turn : Int} {v : V} {H H' : Hp} (h : ObjIs a turn v H) (s : Same H H') : ObjIs a turn v H' := by
  rcases h with ⟨e, h⟩ | ⟨e, h⟩ | ⟨e, h⟩ | ⟨e, h⟩ | ⟨e, h⟩ | ⟨e, h⟩ | ⟨e, n, i, k1, k2, h⟩
  · exact .inl ⟨e, h.same s⟩
  · exact .inr (.inl ⟨e, h.same s⟩)
  · exact .inr (.inr (.inl ⟨e, h.same s⟩))
  · exact .inr (.inr (.inr (.inl ⟨e, h.same s⟩)))
  · exact .inr (.inr (.inr (.inr (.inl ⟨e, h.same s⟩))))
  · exact .inr (.inr (.inr (.inr (.inr (.inl ⟨e, h⟩)))))
  · exact .inr (.inr (.inr (.inr (.inr (.inr ⟨e, n, i, k1, k2, h.same s⟩)))))
theorem ObjIs.kind {a : Ad} {turn : Int} {v : V} {H : Hp} (h : ObjIs a turn v H) (h0 : 0 ≤ turn) : ∃ i, Itm a H v i ∧ (isK i [1, 2, 4, 3] = true ↔ turn ≤ 3) ∧ (i = some 0 ↔ turn = 4) ∧ (v = .non ↔ turn = 5) := by
  rcases h with ⟨rfl, p, dx, rfl, h⟩ | ⟨rfl, p, dx, rfl, h⟩ | ⟨rfl, p, dx, rfl, h⟩ | ⟨rfl, p, dx, q, dy, rfl, h, _⟩ | ⟨rfl, p, dx, rfl, h⟩ | ⟨rfl, rfl⟩ | ⟨e, n, i, k1, k2, h⟩
  · exact ⟨_, .ins (i := 1) (by decide) h, by decide, by decide, by simp⟩
  · exact ⟨_, .ins (i := 2) (by decide) h, by decide, by decide, by simp⟩
  · exact ⟨_, .ins (i := 3) (by decide) h, by decide, by decide, by simp⟩
  · exact ⟨_, .ins (i := 4) (by decide) h, by decide, by decide, by simp⟩
  · exact ⟨_, .ins (i := 0) (by decide) h, by decide, by decide, by simp⟩
  · exact ⟨_, .th .non, by decide, by decide, by simp⟩
  · refine ⟨i, h, ⟨fun z => absurd (k1.symm.trans z) Bool.false_ne_true, fun z => by omega⟩, ⟨fun z => absurd z k2, fun z => by omega⟩, ⟨fun z => absurd z n, fun z => by omega⟩⟩
theorem ObjIs.eqv {a : Ad} {turn : Int} {v u : V} {H : Hp} (h : ObjIs a turn v H) (g : ObjIs a turn u H) (ht : turn ≤ 4) : DKin a v u H := by
  rcases h with ⟨rfl, p, dx, rfl, h⟩ | ⟨rfl, p, dx, rfl, h⟩ | ⟨rfl, p, dx, rfl, h⟩ | ⟨rfl, p, dx, q, dy, rfl, h, hq⟩ | ⟨rfl, p, dx, rfl, h⟩ | ⟨rfl, rfl⟩ | ⟨e, _⟩
  · rcases g with ⟨_, q, dy, rfl, g⟩ | ⟨e, _⟩ | ⟨e, _⟩ | ⟨e, _⟩ | ⟨e, _⟩ | ⟨e, _⟩ | ⟨e, _⟩
    · exact .inr (.inl (.inl ⟨p, q, dx, dy, _, _, rfl, rfl, h, g, dx, dy, _, _, _, h, g, rfl, rfl, rfl⟩))
    all_goals exact absurd e (by decide)
  · rcases g with ⟨e, _⟩ | ⟨_, q, dy, rfl, g⟩ | ⟨e, _⟩ | ⟨e, _⟩ | ⟨e, _⟩ | ⟨e, _⟩ | ⟨e, _⟩
    rotate_left
    · exact .inr (.inl (.inr (.inl ⟨p, q, dx, dy, _, _, rfl, rfl, h, g, dx, dy, _, h, g, rfl⟩)))
    all_goals exact absurd e (by decide)
  · rcases g with ⟨e, _⟩ | ⟨e, _⟩ | ⟨_, q, dy, rfl, g⟩ | ⟨e, _⟩ | ⟨e, _⟩ | ⟨e, _⟩ | ⟨e, _⟩
    rotate_left 2
    · exact .inr (.inl (.inr (.inr ⟨p, q, dx, dy, _, _, rfl, rfl, h, g, dx, dy, _, h, g, rfl⟩)))
    all_goals exact absurd e (by decide)
  · rcases g with ⟨e, _⟩ | ⟨e, _⟩ | ⟨e, _⟩ | ⟨_, p2, dx2, q2, dy2, rfl, g, gq⟩ | ⟨e, _⟩ | ⟨e, _⟩ | ⟨e, _⟩
    rotate_left 3
    · exact .inr (.inr ⟨p, p2, dx, dx2, _, _, rfl, rfl, h, g, dx, dx2, _, _, _, h, g, .inr (.inl ⟨q, q2, dy, dy2, _, _, rfl, rfl, hq, gq, dy, dy2, _, hq, gq, rfl⟩), rfl⟩)
    all_goals exact absurd e (by decide)
  · rcases g with ⟨e, _⟩ | ⟨e, _⟩ | ⟨e, _⟩ | ⟨e, _⟩ | ⟨_, q, dy, rfl, g⟩ | ⟨e, _⟩ | ⟨e, _⟩
    rotate_left 4
    · exact .inl ⟨p, q, dx, dy, _, _, rfl, rfl, h, g, dy, g⟩
    all_goals exact absurd e (by decide)
  · exact absurd ht (by decide)
  · omega
def goodT (which turn : Int) : Bool := if which = 0 then decide (turn ≤ 4) else if which = 1 then decide (turn ≤ 5) else if which = 2 then decide (turn ≤ 3) else decide (turn ≤ 3) || decide (turn = 5)
def dueBad (which : Int) (wd nm : V) (turn : Int) : Option Str := if which ≠ 2 ∧ wordV wd = false then some ("word" : Str) else if nameV nm = false then some ("name" : Str) else if goodT which turn = true then none else some ("kind" : Str)
def mkBad (which : Int) (wd nm y : V) (i : Option Nat) : Option Str := if which = 0 then wayBad wd nm i else if which = 1 then doorBad wd nm y i else if which = 2 then partBad nm i else roomBad wd nm y i
def fsOf (which : Int) (wd nm : V) : List V := if which = 2 then [nm] else [wd, nm]
theorem mk_due {a : Ad} {which turn : Int} {wd nm v : V} {H : Hp} {i : Option Nat} (w0 : 0 ≤ which) (w3 : which ≤ 3) (t0 : 0 ≤ turn) (h1 : isK i [1, 2, 4, 3] = true ↔ turn ≤ 3) (h2 : i = some 0 ↔ turn = 4) (h3 : v = .non ↔ turn = 5) : mkBad which wd nm v i = dueBad which wd nm turn := by
  have hw : which = 0 ∨ which = 1 ∨ which = 2 ∨ which = 3 := by omega
  have three : ∀ (c : Prop) [Decidable c] (g : Bool), (c ↔ g = true) → (match chkBad wd nm with | some z => some z | none => if c then none else some ("kind" : Str)) = (if wordV wd = false then some ("word" : Str) else if nameV nm = false then some ("name" : Str) else if g = true then none else some ("kind" : Str)) := by
    intro c _ g hc
    unfold chkBad
    cases hw : wordV wd with
    | false => rfl
    | true =>
      cases hn : nameV nm with
      | false => rfl
      | true =>
        show (if c then none else some ("kind" : Str)) = (if g = true then none else some ("kind" : Str))
        by_cases q : c
        · rw [if_pos q, if_pos (hc.mp q)]
        · rw [if_neg q, if_neg (fun z => q (hc.mpr z))]
  rcases hw with rfl | rfl | rfl | rfl
  · have e : dueBad 0 wd nm turn = (if wordV wd = false then some ("word" : Str) else if nameV nm = false then some ("name" : Str) else if decide (turn ≤ 4) = true then none else some ("kind" : Str)) := by
      unfold dueBad
      by_cases q : wordV wd = false
      · rw [if_pos ⟨by decide, q⟩, if_pos q]
      · rw [if_neg (fun z => q z.2), if_neg q]; rfl
    rw [e]
    refine three (isK i [1, 2, 4, 3] = true ∨ i = some 0) _ ?_
    rw [h1, h2, decide_eq_true_eq]; omega
  · have e : dueBad 1 wd nm turn = (if wordV wd = false then some ("word" : Str) else if nameV nm = false then some ("name" : Str) else if decide (turn ≤ 5) = true then none else some ("kind" : Str)) := by
      unfold dueBad
      by_cases q : wordV wd = false
      · rw [if_pos ⟨by decide, q⟩, if_pos q]
      · rw [if_neg (fun z => q z.2), if_neg q]; rfl
    rw [e]
    refine three (v = .non ∨ isK i [1, 2, 4, 3] = true ∨ i = some 0) _ ?_
    rw [h1, h2, h3, decide_eq_true_eq]; omega
  · have e : dueBad 2 wd nm turn = (if nameV nm = false then some ("name" : Str) else if decide (turn ≤ 3) = true then none else some ("kind" : Str)) := by
      unfold dueBad
      rw [if_neg (fun z : (2 : Int) ≠ 2 ∧ wordV wd = false => z.1 rfl)]; rfl
    rw [e]
    show partBad nm i = _
    unfold partBad
    cases hn : nameV nm with
    | false => rfl
    | true =>
      show (if isK i [1, 2, 4, 3] = true then none else some ("kind" : Str)) = (if decide (turn ≤ 3) = true then none else some ("kind" : Str))
      by_cases q : isK i [1, 2, 4, 3] = true
      · rw [if_pos q, if_pos (decide_eq_true (h1.mp q))]
      · rw [if_neg q, if_neg (fun z => q (h1.mpr (of_decide_eq_true z)))]
  · have e : dueBad 3 wd nm turn = (if wordV wd = false then some ("word" : Str) else if nameV nm = false then some ("name" : Str) else if (decide (turn ≤ 3) || decide (turn = 5)) = true then none else some ("kind" : Str)) := by
      unfold dueBad
      by_cases q : wordV wd = false
      · rw [if_pos ⟨by decide, q⟩, if_pos q]
      · rw [if_neg (fun z => q z.2), if_neg q]; rfl
    rw [e]
    refine three (v = .non ∨ isK i [1, 2, 4, 3] = true) _ ?_
    rw [h1, h3, Bool.or_eq_true, decide_eq_true_eq, decide_eq_true_eq]; omega
section
variable {P : Program} {w : World} {K : PySem.W.Frag} {mg : Str → Option Value} {base : Heap} {a : Ad}
def spObjOf (a : Ad) : Sp := fun vs H Q _ => ∃ (turn : Int) (o : V), vs = [.int turn, o] ∧ 0 ≤ turn ∧ Th H o ∧ o ≠ .non ∧ ∀ v H', Same H H' → ObjIs a turn v H' → Q v H'
theorem ok_objof (T : Txt K mg a) : FnOk P w K mg base CX0 7 a._law_object_of.f a._law_object_of.fd ["_law_turn", "_law_other"] (spObjOf a) := by
  have G__law_object : FnOk P w K mg base CX0 6 a._law_object.f a._law_object.fd ["_law_turn"] (spObj a) := ok_obj T
  have sc : FnScope ["_law_turn", "_law_other"] ["_law_turn", "_law_other"] (defScope (top 39)) := ⟨rfl, rfl, rfl, by decide +kernel, rfl, by decide +kernel, by decide +kernel⟩
  refine T._law_object_of.ok sc (fun vs H Q E h => ?_) (fun cdv A outer s H vs Q E hr h => ?_)
  · obtain ⟨turn, o, rfl, _⟩ := h
    rfl
  · obtain ⟨turn, o, rfl, h0, ho, on, k⟩ := h
    refine ⟨_, (pss_cons (ps_if (pt_cmpR op_eq (pv 0) pe_int (nomark _))
      (pss_one (ps_ret (pv 1)))
      pss_nil)
      (pss_one (ps_ret (pe_call G__law_object (hr.mono (by first | decide | omega)) rfl T._law_object.mg T._law_object.kp T._law_object.b .nil pass0 (pa_cons (pv 0) pa_nil))))), ?_⟩
    walk_at "go"
    refine i_itei (fun e => ?_) (fun n0 => ?_)
    · walk_at "go"
      exact k _ _ same_rfl (.inr (.inr (.inr (.inr (.inr (.inr ⟨by omega, on, none, by decide, by decide, .th ho⟩))))))
    · walk_at "go"
      exact ⟨turn, rfl, h0, k⟩
def MadeIs (a : Ad) (which : Int) (wd nm y : V) (x : Addr) (H : Hp) : Prop := (which = 0 ∧ ∃ dx, H x = some (.ins (a.C 5) dx [("word", wd), ("name", nm), ("kind", y)])) ∨ (which = 1 ∧ ∃ dx, H x = some (.ins (a.C 6) dx [("word", wd), ("name", nm), ("kind", y)])) ∨
  (which = 2 ∧ ∃ dx, H x = some (.ins (a.C 7) dx [("name", nm), ("kind", y)])) ∨ (2 < which ∧ ∃ dx, H x = some (.ins (a.C 8) dx [("word", wd), ("name", nm), ("kind", y)]))
def spMake (a : Ad) : Sp := fun vs H Q E => ∃ (which : Int) (wd nm y : V) (i : Option Nat), vs = [.int which, wd, nm, y] ∧ 0 ≤ which ∧ Th H wd ∧ Sh wd ∧ Th H nm ∧ Sh nm ∧ Itm a H y i ∧
  (mkBad which wd nm y i = none → ∀ x H', Same H H' → MadeIs a which wd nm y x H' → Q (.ref x) H') ∧ ∀ z, mkBad which wd nm y i = some z → ∀ d H', Same H H' → H' d = some (.xd [("part", .str z)]) → E (.ref a.bad) (some d) H'
theorem ok_make (T : Txt K mg a) : FnOk P w K mg base (L2.CX P w) 6 a._law_make.f a._law_make.fd ["_law_which", "_law_word_here", "_law_name", "_law_content"] (spMake a) := by
  have GI5 : FnOk P w K mg base (L2.CX P w) 4 (a.I 5).f (a.I 5).fd ["self", "word", "name", "kind"] (spWay a) := ok_Way T
  have GI6 : FnOk P w K mg base (L2.CX P w) 4 (a.I 6).f (a.I 6).fd ["self", "word", "name", "kind"] (spDoor a) := ok_Door T
  have GI7 : FnOk P w K mg base (L2.CX P w) 4 (a.I 7).f (a.I 7).fd ["self", "name", "kind"] (spPart a) := ok_Part T
  have GI8 : FnOk P w K mg base (L2.CX P w) 4 (a.I 8).f (a.I 8).fd ["self", "word", "name", "kind"] (spRoom a) := ok_Room T
  have sc : FnScope ["_law_which", "_law_word_here", "_law_name", "_law_content"] ["_law_which", "_law_word_here", "_law_name", "_law_content"] (defScope (top 40)) := ⟨rfl, rfl, rfl, by decide +kernel, rfl, by decide +kernel, by decide +kernel⟩
  refine T._law_make.okX sc (fun vs H Q E h => ?_) (fun cdv A outer s H vs Q E hr h => ?_)
  · obtain ⟨which, wd, nm, y, i, rfl, _⟩ := h
    rfl
  · obtain ⟨which, wd, nm, y, i, rfl, h0, hw, sw, hn, sn, hy, k, kE⟩ := h
    have tk : Takes (cxOf (L2.CX P w) P w K mg base ["_law_which", "_law_word_here", "_law_name", "_law_content"] "_law_make" (defScope (top 40)) a._law_make.f cdv A outer s H E) (fun cls d _ H => E cls d H) := takes_of rfl rfl rfl rfl
    refine ⟨_, (pss_cons (ps_if (pt_cmpR op_eq (pv 0) pe_int (nomark _))
      (pss_one (ps_ret (pe_make T.mk5 GI5 (hr.mono (by decide)) rfl (T.kc 5 (by decide)).gl T.Ib5 .nil (passes_call tk (fun _ _ _ _ h => h)) (pa_cons (pv 1) (pa_cons (pv 2) (pa_cons (pv 3) pa_nil))))))
      pss_nil)
      (pss_cons (ps_if (pt_cmpR op_eq (pv 0) pe_int (nomark _))
      (pss_one (ps_ret (pe_make T.mk6 GI6 (hr.mono (by decide)) rfl (T.kc 6 (by decide)).gl T.Ib6 .nil (passes_call tk (fun _ _ _ _ h => h)) (pa_cons (pv 1) (pa_cons (pv 2) (pa_cons (pv 3) pa_nil))))))
      pss_nil)
      (pss_cons (ps_if (pt_cmpR op_eq (pv 0) pe_int (nomark _))
      (pss_one (ps_ret (pe_make T.mk7 GI7 (hr.mono (by decide)) rfl (T.kc 7 (by decide)).gl T.Ib7 .nil (passes_call tk (fun _ _ _ _ h => h)) (pa_cons (pv 2) (pa_cons (pv 3) pa_nil)))))
      pss_nil)
      (pss_one (ps_ret (pe_make T.mk8 GI8 (hr.mono (by decide)) rfl (T.kc 8 (by decide)).gl T.Ib8 .nil (passes_call tk (fun _ _ _ _ h => h)) (pa_cons (pv 1) (pa_cons (pv 2) (pa_cons (pv 3) pa_nil))))))))), ?_⟩
    walk_at "go"
    refine i_itei (fun e => ?_) (fun n0 => ?_)
    · subst e
      walk_at "go"
      refine i_make ?_
      walk_at "go"
      intro x dx nx ndx ne
      have s1 := same2 (o := .own x) (o' := .ins (a.C 5) dx []) nx ndx
      exact ⟨x, dx, wd, nm, y, i, rfl, upd_same, hw.same s1, sw, hn.same s1, sn, hy.same s1, fun e1 H1 kp hx => ⟨rfl, k e1 x H1 (kp.same nx ndx) (.inl ⟨rfl, dx, hx⟩)⟩, fun z e1 d H1 s2 hd => kE z e1 d H1 (s1.trans s2) hd⟩
    walk_at "go"
    refine i_itei (fun e => ?_) (fun n1 => ?_)
    · subst e
      walk_at "go"
      refine i_make ?_
      walk_at "go"
      intro x dx nx ndx ne
      have s1 := same2 (o := .own x) (o' := .ins (a.C 6) dx []) nx ndx
      exact ⟨x, dx, wd, nm, y, i, rfl, upd_same, hw.same s1, sw, hn.same s1, sn, hy.same s1, fun e1 H1 kp hx => ⟨rfl, k e1 x H1 (kp.same nx ndx) (.inr (.inl ⟨rfl, dx, hx⟩))⟩, fun z e1 d H1 s2 hd => kE z e1 d H1 (s1.trans s2) hd⟩
    walk_at "go"
    refine i_itei (fun e => ?_) (fun n2 => ?_)
    · subst e
      walk_at "go"
      refine i_make ?_
      walk_at "go"
      intro x dx nx ndx ne
      have s1 := same2 (o := .own x) (o' := .ins (a.C 7) dx []) nx ndx
      exact ⟨x, dx, nm, y, i, rfl, upd_same, hn.same s1, sn, hy.same s1, fun e1 H1 kp hx => ⟨rfl, k e1 x H1 (kp.same nx ndx) (.inr (.inr (.inl ⟨rfl, dx, hx⟩)))⟩, fun z e1 d H1 s2 hd => kE z e1 d H1 (s1.trans s2) hd⟩
    · have er : mkBad which wd nm y i = roomBad wd nm y i := by unfold mkBad; rw [if_neg n0, if_neg n1, if_neg n2]
      rw [er] at k kE
      walk_at "go"
      refine i_make ?_
      walk_at "go"
      intro x dx nx ndx ne
      have s1 := same2 (o := .own x) (o' := .ins (a.C 8) dx []) nx ndx
      exact ⟨x, dx, wd, nm, y, i, rfl, upd_same, hw.same s1, sw, hn.same s1, sn, hy.same s1, fun e1 H1 kp hx => ⟨rfl, k e1 x H1 (kp.same nx ndx) (.inr (.inr (.inr ⟨by omega, dx, hx⟩)))⟩, fun z e1 d H1 s2 hd => kE z e1 d H1 (s1.trans s2) hd⟩
end
end Me
set_option maxHeartbeats 8000000
namespace Me
open PySem L2


theorem madeEq {a : Ad} {which : Int} {wd nm y z : V} {p q : Addr} {H : Hp} (h : MadeIs a which wd nm y p H) (g : MadeIs a which wd nm z q H) (w0 : 0 ≤ which) (sw : which ≠ 2 → scal wd wd = true) (sn : scal nm nm = true) (ke : KEq a y z H) : DMade a (.ref p) (.ref q) H := by
  rcases h with ⟨e, dx, h⟩ | ⟨e, dx, h⟩ | ⟨e, dx, h⟩ | ⟨e, dx, h⟩
  · rcases g with ⟨e', dy, g⟩ | ⟨e', dy, g⟩ | ⟨e', dy, g⟩ | ⟨e', dy, g⟩
    · exact .inl ⟨p, q, dx, dy, _, _, rfl, rfl, h, g, dx, dy, _, _, _, _, h, g, sw (by omega), sn, ke⟩
    all_goals omega
  · rcases g with ⟨e', dy, g⟩ | ⟨e', dy, g⟩ | ⟨e', dy, g⟩ | ⟨e', dy, g⟩
    rotate_left
    · exact .inr (.inl ⟨p, q, dx, dy, _, _, rfl, rfl, h, g, dx, dy, _, _, _, _, h, g, sw (by omega), sn, ke⟩)
    all_goals omega
  · rcases g with ⟨e', dy, g⟩ | ⟨e', dy, g⟩ | ⟨e', dy, g⟩ | ⟨e', dy, g⟩
    rotate_left 2
    · exact .inr (.inr (.inl ⟨p, q, dx, dy, _, _, rfl, rfl, h, g, dx, dy, _, _, _, h, g, sn, ke⟩))
    all_goals omega
  · rcases g with ⟨e', dy, g⟩ | ⟨e', dy, g⟩ | ⟨e', dy, g⟩ | ⟨e', dy, g⟩
    rotate_left 3
    · exact .inr (.inr (.inr ⟨p, q, dx, dy, _, _, rfl, rfl, h, g, dx, dy, _, _, _, _, h, g, sw (by omega), sn, ke⟩))
    all_goals omega
theorem MadeIs.same {a : Ad} {which : Int} {wd nm y : V} {p : Addr} {H H' : Hp} (h : MadeIs a which wd nm y p H) (s : Same H H') : MadeIs a which wd nm y p H' := by
  rcases h with ⟨e, dx, h⟩ | ⟨e, dx, h⟩ | ⟨e, dx, h⟩ | ⟨e, dx, h⟩
  · exact .inl ⟨e, dx, s _ _ h⟩
  · exact .inr (.inl ⟨e, dx, s _ _ h⟩)
  · exact .inr (.inr (.inl ⟨e, dx, s _ _ h⟩))
  · exact .inr (.inr (.inr ⟨e, dx, s _ _ h⟩))
/-- the fields that are read -/
theorem MadeIs.fld {K : PySem.W.Frag} {mg : Str → Option Value} {a : Ad} (T : Txt K mg a) {which : Int} {wd nm y : V} {p : Addr} {H : Hp} (h : MadeIs a which wd nm y p H) : ∃ C dx fs, H p = some (.ins C dx fs) ∧ Cls K C ∧ (∀ f ∈ allK, NoAttr K C f) ∧ fs.lookup ("kind" : Str) = some y ∧ fs.lookup ("name" : Str) = some nm ∧ (which ≠ 2 → fs.lookup ("word" : Str) = some wd) := by
  rcases h with ⟨e, dx, h⟩ | ⟨e, dx, h⟩ | ⟨e, dx, h⟩ | ⟨e, dx, h⟩
  · exact ⟨_, dx, _, h, (T.kc 5 (by decide)).cl, (T.kc 5 (by decide)).no, rfl, rfl, fun _ => rfl⟩
  · exact ⟨_, dx, _, h, (T.kc 6 (by decide)).cl, (T.kc 6 (by decide)).no, rfl, rfl, fun _ => rfl⟩
  · exact ⟨_, dx, _, h, (T.kc 7 (by decide)).cl, (T.kc 7 (by decide)).no, rfl, rfl, fun z => absurd e z⟩
  · exact ⟨_, dx, _, h, (T.kc 8 (by decide)).cl, (T.kc 8 (by decide)).no, rfl, rfl, fun _ => rfl⟩
theorem scal_name {v : V} (h : nameV v = true) : scal v v = true ∧ flatV v = true := by
  cases v with
  | str z => exact ⟨rfl, rfl⟩
  | _ => cases h
theorem scal_word {v : V} (h : wordV v = true) : scal v v = true ∧ flatV v = true := by
  cases v with
  | str z => exact ⟨rfl, rfl⟩
  | _ => cases h
theorem due_ok {which turn : Int} {wd nm : V} (e : dueBad which wd nm turn = none) : (which ≠ 2 → wordV wd = true) ∧ nameV nm = true ∧ goodT which turn = true := by
  unfold dueBad at e
  by_cases h : which ≠ 2 ∧ wordV wd = false
  · rw [if_pos h] at e; cases e
  · rw [if_neg h] at e
    by_cases g : nameV nm = false
    · rw [if_pos g] at e; cases e
    · rw [if_neg g] at e
      by_cases q : goodT which turn = true
      · refine ⟨fun z => ?_, by revert g; cases nameV nm <;> simp, q⟩
        cases hw : wordV wd with
        | true => rfl
        | false => exact absurd ⟨z, hw⟩ h
      · rw [if_neg q] at e; cases e
section
variable {P : Program} {w : World} {K : PySem.W.Frag} {mg : Str → Option Value} {base : Heap} {a : Ad}
def spTold : Sp := fun vs H Q _ => ∃ (which : Int) (wd nm : V) (turn : Int) (o : V), vs = [.int which, wd, nm, .int turn, o] ∧ 0 ≤ which ∧ which ≤ 3 ∧ Th H wd ∧ Sh wd ∧ Th H nm ∧ Sh nm ∧ 0 ≤ turn ∧ Th H o ∧ o ≠ .non ∧ ∀ t H', Same H H' → H' t = some (.tup (dueOf (fsOf which wd nm) (dueBad which wd nm turn))) → Q (.ref t) H'
theorem ok_told (T : Txt K mg a) : FnOk P w K mg base CX0 8 a._law_told.f a._law_told.fd ["_law_which", "_law_word_here", "_law_name", "_law_turn", "_law_other"] spTold := by
  have G__law_make : FnOk P w K mg base (L2.CX P w) 6 a._law_make.f a._law_make.fd ["_law_which", "_law_word_here", "_law_name", "_law_content"] (spMake a) := ok_make T
  have G__law_object_of : FnOk P w K mg base CX0 7 a._law_object_of.f a._law_object_of.fd ["_law_turn", "_law_other"] (spObjOf a) := ok_objof T
  have sc : FnScope ["_law_which", "_law_word_here", "_law_name", "_law_turn", "_law_other", "_law_made", "e"] ["_law_which", "_law_word_here", "_law_name", "_law_turn", "_law_other"] (defScope (top 41)) := ⟨rfl, rfl, rfl, by decide +kernel, rfl, by decide +kernel, by decide +kernel⟩
  refine T._law_told.ok sc (fun vs H Q E h => ?_) (fun cdv A outer s H vs Q E hr h => ?_)
  · obtain ⟨which, wd, nm, turn, o, rfl, _⟩ := h
    rfl
  · obtain ⟨which, wd, nm, turn, o, rfl, w0, w3, hw, sw, hn, sn, t0, ho, on, k⟩ := h
    have hr7 : Room 7 _ := hr.mono (by decide)
    refine ⟨_, (pss_cons (ps_try_as (i := 6) (tb := fun W => tAsg (tCall (spMake a) [] (AW 7 W) (tCons (tVar 0) (tCons (tVar 1) (tCons (tVar 2) (tCons (tCall (spObjOf a) [] E0 (tCons (tVar 3) (tCons (tVar 4) tNil))) tNil))))) (gName 5)) (ts := tsBad a.bad 6) (Wout := fun _ _ _ _ => False) rfl rfl sc.nd rfl rfl ⟨rfl, by decide, Or.inl T.bad.gl⟩ takes0 (fun W pn xe tk _ => (by exact (pss_one (ps_set (i := 5) sc.nd rfl (by first | exact Or.inl rfl | exact Or.inr rfl) (by exact (pe_call G__law_make (hr.mono (by first | decide | omega)) rfl T._law_make.mg T._law_make.kp T._law_make.b .nil (passW tk) (pa_cons (pv 0) (pa_cons (pv 1) (pa_cons (pv 2) (pa_cons (pe_call G__law_object_of (hr.mono (by first | decide | omega)) rfl T._law_object_of.mg T._law_object_of.kp T._law_object_of.b .nil pass0 (pa_cons (pv 3) (pa_cons (pv 4) pa_nil))) pa_nil)))))))))) (fun e oe cls d pn hz hf => (by exact (pss_one (ps_ret (pe_tup (pa_cons pe_str (pa_cons (pe_xf T.bad.xf T.bad.no hz hf (pv 6)) pa_nil))))))))
      (pss_cons (ps_if (pt_not (pt_cmpR (op_eqG (rc_made T) (hr.mono (by decide))) (pv 5) (pe_call G__law_make (hr.mono (by first | decide | omega)) rfl T._law_make.mg T._law_make.kp T._law_make.b .nil passF (pa_cons (pv 0) (pa_cons (pv 1) (pa_cons (pv 2) (pa_cons (pe_call G__law_object_of (hr.mono (by first | decide | omega)) rfl T._law_object_of.mg T._law_object_of.kp T._law_object_of.b .nil pass0 (pa_cons (pv 3) (pa_cons (pv 4) pa_nil))) pa_nil))))) (nomark _)))
      (pss_one (ps_ret pe_non))
      pss_nil)
      (pss_cons (ps_if (pt_cmpR op_eq (pv 3) pe_int (nomark _))
      (pss_one (ps_if (pt_cmpR op_notN (pe_fld (pv 5) rfl) pe_non (nomark _))
      (pss_one (ps_ret pe_non))
      pss_nil))
      (pss_one (ps_if (pt_not (pt_cmpR (op_eqG (rc_kin T) (hr.mono (by decide))) (pe_fld (pv 5) rfl) (pe_call G__law_object_of (hr.mono (by first | decide | omega)) rfl T._law_object_of.mg T._law_object_of.kp T._law_object_of.b .nil pass0 (pa_cons (pv 3) (pa_cons (pv 4) pa_nil))) (nomark _)))
      (pss_one (ps_ret pe_non))
      pss_nil)))
      (pss_cons (ps_if (pt_cmpR op_eq (pv 0) pe_int (nomark _))
      (pss_one (ps_ret (pe_tup (pa_cons pe_str (pa_cons (pe_fld (pv 5) rfl) pa_nil)))))
      pss_nil)
      (pss_one (ps_ret (pe_tup (pa_cons pe_str (pa_cons (pe_fld (pv 5) rfl) (pa_cons (pe_fld (pv 5) rfl) pa_nil)))))))))), ?_⟩
    walk_at "go"
    refine ⟨turn, o, rfl, t0, ho, on, fun v H1 s1 iv => ?_⟩
    obtain ⟨i, hi, k1, k2, k3⟩ := iv.kind t0
    have eb : mkBad which wd nm v i = dueBad which wd nm turn := mk_due (a := a) (H := H1) w0 w3 t0 k1 k2 k3
    walk_at "go"
    refine ⟨which, wd, nm, v, i, rfl, w0, hw.same s1, sw, hn.same s1, sn, hi, fun e x H3 s2 mx => ?_, fun z e d H3 sm hd => ?_⟩
    · rw [eb] at e
      obtain ⟨g1, g2, g3⟩ := due_ok e
      have s3 := s1.trans s2
      have iv3 := iv.same s2
      walk_at "go"
      refine ⟨turn, o, rfl, t0, ho.same s3, on, fun v5 H5 s5 iv5 => ?_⟩
      obtain ⟨i5, hi5, q1, q2, q3⟩ := iv5.kind t0
      have eb5 : mkBad which wd nm v5 i5 = dueBad which wd nm turn := mk_due (a := a) (H := H5) w0 w3 t0 q1 q2 q3
      have s35 := s3.trans s5
      walk_at "go"
      refine ⟨which, wd, nm, v5, i5, rfl, w0, hw.same s35, sw, hn.same s35, sn, hi5, fun e6 x6 H6 s6 mx6 => ?_, fun z e6 => by rw [eb5, e] at e6; cases e6⟩
      have s7 := s5.trans s6
      have iv7 := iv3.same s7
      have iv6 := iv5.same s6
      have t5 : turn ≤ 5 := by
        revert g3
        unfold goodT
        split
        · intro h; have := of_decide_eq_true h; omega
        · split
          · intro h; exact of_decide_eq_true h
          · split
            · intro h; have := of_decide_eq_true h; omega
            · intro h; simp at h; omega
      have ke : KEq a v v5 H6 := by
        by_cases h5 : turn = 5
        · exact .inl ⟨k3.mpr h5, q3.mpr h5⟩
        · exact .inr (iv7.eqv iv6 (by omega))
      refine ⟨madeEq (mx.same s7) mx6 w0 (fun z => (scal_word (g1 z)).1) (scal_name g2).1 ke, fun H7 x7 => ?_⟩
      walk_at "go"
      refine i_no rfl ?_
      have s8 := s7.trans x7
      obtain ⟨C, dx, fs, hx, cl, no, lk, ln, lw⟩ := (mx.same s8).fld T
      have fin : ∀ Hn, Same H7 Hn → tSeq (tIfS (tTest (tOp rEq (tVar 0) (tC (V.int 2)))) (tRet (tTup (tCons (tC (V.str "made")) (tCons (tFld K (tVar 5) "name") tNil)))) tNext) (tRet (tTup (tCons (tC (V.str "made")) (tCons (tFld K (tVar 5) "word") (tCons (tFld K (tVar 5) "name") tNil)))))
          { nx := fun _ H' => Q V.non H', rt := Q } (List.set (L2.start ["_law_which", "_law_word_here", "_law_name", "_law_turn", "_law_other", "_law_made", "e"] [.int which, wd, nm, .int turn, o]) 5 (some (.ref x))) Hn := fun Hn sn7 => by
        have hx := sn7 _ _ hx
        have st := (s3.trans s8).trans sn7
        walk_at "go"
        refine i_itei (fun e2 => ?_) (fun n2 => ?_)
        · walk_at "go"
          refine i_fld ?_
          walk_at "go"
          refine ⟨x, C, dx, fs, nm, rfl, hx, cl, no _ (by decide), ln, ?_⟩
          walk_at "go"
          rename_i t nt
          refine k t _ (same_new st nt) ?_
          rw [upd_same, e, show fsOf which wd nm = [nm] from if_pos e2]; rfl
        · walk_at "go"
          refine i_fld ?_
          walk_at "go"
          refine ⟨x, C, dx, fs, wd, rfl, hx, cl, no _ (by decide), lw n2, ?_⟩
          walk_at "go"
          refine i_fld ?_
          walk_at "go"
          refine ⟨x, C, dx, fs, nm, rfl, hx, cl, no _ (by decide), ln, ?_⟩
          walk_at "go"
          rename_i t nt
          refine k t _ (same_new st nt) ?_
          rw [upd_same, e, show fsOf which wd nm = [wd, nm] from if_neg n2]; rfl
      walk_at "go"
      refine i_itei (fun e5 => ?_) (fun n5 => ?_)
      · walk_at "go"
        refine i_fld ?_
        walk_at "go"
        refine ⟨x, C, dx, fs, v, rfl, hx, cl, no _ (by decide), lk, ?_⟩
        walk_at "go"
        refine ⟨rfl, _, rfl, ?_⟩
        refine i_no (by rw [decide_eq_true (k3.mpr e5)]; rfl) ?_
        exact fin _ same_rfl
      · walk_at "go"
        refine i_fld ?_
        walk_at "go"
        refine ⟨x, C, dx, fs, v, rfl, hx, cl, no _ (by decide), lk, ?_⟩
        walk_at "go"
        refine ⟨turn, o, rfl, t0, ho.same (s3.trans s8), on, fun v9 H9 s9 iv9 => ?_⟩
        refine ⟨(iv3.same (s8.trans s9)).eqv iv9 (by omega), fun H10 x10 => ?_⟩
        walk_at "go"
        refine i_no rfl ?_
        exact fin _ (s9.trans x10)
    · refine caught T.bad (by decide) hd fun t nt => ?_
      rw [eb] at e
      refine k t _ (same_new (s1.trans sm) nt) ?_
      rw [upd_same, e]; rfl
end
theorem in_int {i : Int} {xs : List Int} : inV (.int i) (xs.map V.int) = decide (i ∈ xs) := by
  induction xs with
  | nil => simp [inV]
  | cons x r ih =>
    unfold inV at ih ⊢
    rw [List.map_cons, List.any_cons, ih]
    by_cases h : x = i
    · subst h; simp [eqV]
    · have h2 : i ≠ x := fun e => h e.symm
      simp [eqV, h, h2]
theorem i_notin {K : PySem.W.Frag} {i : Int} {p : Addr} {xs : List Int} {H : Hp} {Q : VK} (h : H p = some (.lst (xs.map V.int))) (q : Q (.bl (!decide (i ∈ xs))) H) : rIn K true (.int i) (.ref p) H Q :=
  ⟨p, _, rfl, .inl (SqL.of h), rfl, by rw [List.all_map]; exact List.all_eq_true.mpr fun _ _ => rfl, by rw [if_pos rfl, in_int]; exact q⟩
def tDue3 : TS := tSeq (tIfS (tTest (tOp rEq (tVar 0) (tC (V.int 2)))) (tRet (tTup (tCons (tC (V.str "made")) (tCons (tVar 2) tNil)))) tNext) (tRet (tTup (tCons (tC (V.str "made")) (tCons (tVar 1) (tCons (tVar 2) tNil)))))
def tDue2 (K : PySem.W.Frag) : TS := tSeq (tIfS (tNot (tB (tCall (spIsName True) [] E0 (tCons (tVar 2) tNil)))) (tRet (tTup (tCons (tC (V.str "refused")) (tCons (tC (V.str "name")) tNil)))) tNext)
  (tSeq (tAsg (tOp (rIxL K) (tLst (tCons (tLst (tCons (tC (V.int 0)) (tCons (tC (V.int 1)) (tCons (tC (V.int 2)) (tCons (tC (V.int 3)) (tCons (tC (V.int 4)) tNil))))))
    (tCons (tLst (tCons (tC (V.int 0)) (tCons (tC (V.int 1)) (tCons (tC (V.int 2)) (tCons (tC (V.int 3)) (tCons (tC (V.int 4)) (tCons (tC (V.int 5)) tNil)))))))
    (tCons (tLst (tCons (tC (V.int 0)) (tCons (tC (V.int 1)) (tCons (tC (V.int 2)) (tCons (tC (V.int 3)) tNil)))))
    (tCons (tLst (tCons (tC (V.int 0)) (tCons (tC (V.int 1)) (tCons (tC (V.int 2)) (tCons (tC (V.int 3)) (tCons (tC (V.int 5)) tNil)))))) tNil))))) (tVar 0)) (gName 4))
  (tSeq (tIfS (tTest (tOp (rIn K true) (tVar 3) (tVar 4))) (tRet (tTup (tCons (tC (V.str "refused")) (tCons (tC (V.str "kind")) tNil)))) tNext) tDue3))
section
variable {K : PySem.W.Frag} {Q : VK} {H : Hp} {which turn : Int} {wd nm : V}
theorem due3 (k : ∀ t H', Same H H' → H' t = some (.tup (dueOf (fsOf which wd nm) (dueBad which wd nm turn))) → Q (.ref t) H') (r : dueBad which wd nm turn = none) {v : Option V} {H1 : Hp} (s1 : Same H H1) :
    tDue3 { nx := fun _ H' => Q .non H', rt := Q } [some (.int which), some wd, some nm, some (.int turn), v] H1 := by
  unfold tDue3
  walk_at "go"
  refine i_itei (fun e2 => ?_) (fun n2 => ?_)
  · walk_at "go"
    rename_i t nt
    refine k t _ (same_new s1 nt) ?_
    rw [upd_same, r, show fsOf which wd nm = [nm] from if_pos e2]; rfl
  · walk_at "go"
    rename_i t nt
    refine k t _ (same_new s1 nt) ?_
    rw [upd_same, r, show fsOf which wd nm = [wd, nm] from if_neg n2]; rfl
theorem due2 (k : ∀ t H', Same H H' → H' t = some (.tup (dueOf (fsOf which wd nm) (dueBad which wd nm turn))) → Q (.ref t) H') (w0 : 0 ≤ which) (w3 : which ≤ 3) (hn : Th H nm) (sn : Sh nm) (t0 : 0 ≤ turn) (ok : ¬ (which ≠ 2 ∧ wordV wd = false)) {H1 : Hp} (s1 : Same H H1) :
    tDue2 K { nx := fun _ H' => Q .non H', rt := Q } [some (.int which), some wd, some nm, some (.int turn), none] H1 := by
  unfold tDue2
  walk_at "go"
  refine ⟨nm, rfl, hn.same s1, sn, fun H2 s2 => ?_⟩
  have s12 := s1.trans s2
  refine ⟨_, rfl, ?_⟩
  refine i_itb (fun h1 => ?_) (fun h1 => ?_)
  · have h1 : nameV nm = false := by revert h1; cases nameV nm <;> simp
    walk_at "go"
    rename_i t nt
    refine k t _ (same_new s12 nt) ?_
    rw [upd_same, show dueBad which wd nm turn = some ("name" : Str) by unfold dueBad; rw [if_neg ok, if_pos h1]]; rfl
  · have h1 : nameV nm = true := by revert h1; cases nameV nm <;> simp
    have er : dueBad which wd nm turn = if goodT which turn = true then none else some ("kind" : Str) := by unfold dueBad; rw [if_neg ok, if_neg (by rw [h1]; simp)]
    walk_at "go"
    rename_i p1 n1 p2 n2 p3 n3 p4 n4 p5 n5
    have sa := same_new (o := .lst [.ref p1, .ref p2, .ref p3, .ref p4]) (same_new (o := .lst [.int 0, .int 1, .int 2, .int 3, .int 5]) (same_new (o := .lst [.int 0, .int 1, .int 2, .int 3]) (same_new (o := .lst [.int 0, .int 1, .int 2, .int 3, .int 4, .int 5]) (same_new (o := .lst [.int 0, .int 1, .int 2, .int 3, .int 4]) s12 n1) n2) n3) n4) n5
    have fin : ∀ (p : Addr) (xs : List Int) (Hn : Hp), Same H Hn → Hn p = some (.lst (xs.map V.int)) → (turn ∈ xs ↔ goodT which turn = true) → tSeq (tIfS (tTest (tOp (rIn K true) (tVar 3) (tVar 4))) (tRet (tTup (tCons (tC (V.str "refused")) (tCons (tC (V.str "kind")) tNil)))) tNext) tDue3 { nx := fun _ H' => Q .non H', rt := Q } [some (.int which), some wd, some nm, some (.int turn), some (.ref p)] Hn := by
      intro p xs Hn sn hp hg
      walk_at "go"
      refine i_notin hp ?_
      walk_at "go"
      refine i_itn (fun h => ?_) (fun h => ?_)
      · walk_at "go"
        rename_i t nt
        refine k t _ (same_new sn nt) ?_
        rw [upd_same, er, if_neg (fun z => h (hg.mpr z))]; rfl
      · exact due3 k (by rw [er, if_pos (hg.mp h)]) sn
    have hw : which = 0 ∨ which = 1 ∨ which = 2 ∨ which = 3 := by omega
    rcases hw with rfl | rfl | rfl | rfl
    · refine i_ixl upd_same (v := .ref p1) rfl ?_
      refine fin p1 [0, 1, 2, 3, 4] _ sa (same_new same_rfl n5 _ _ (same_new same_rfl n4 _ _ (same_new same_rfl n3 _ _ (same_new same_rfl n2 _ _ upd_same)))) ?_
      show _ ↔ decide (turn ≤ 4) = true
      simp; omega
    · refine i_ixl upd_same (v := .ref p2) rfl ?_
      refine fin p2 [0, 1, 2, 3, 4, 5] _ sa (same_new same_rfl n5 _ _ (same_new same_rfl n4 _ _ (same_new same_rfl n3 _ _ upd_same))) ?_
      show _ ↔ decide (turn ≤ 5) = true
      simp; omega
    · refine i_ixl upd_same (v := .ref p3) rfl ?_
      refine fin p3 [0, 1, 2, 3] _ sa (same_new same_rfl n5 _ _ (same_new same_rfl n4 _ _ upd_same)) ?_
      show _ ↔ decide (turn ≤ 3) = true
      simp; omega
    · refine i_ixl upd_same (v := .ref p4) rfl ?_
      refine fin p4 [0, 1, 2, 3, 5] _ sa (same_new same_rfl n5 _ _ upd_same) ?_
      show _ ↔ (decide (turn ≤ 3) || decide (turn = 5)) = true
      simp; omega
end
section
variable {P : Program} {w : World} {K : PySem.W.Frag} {mg : Str → Option Value} {base : Heap} {a : Ad}
def spDue : Sp := fun vs H Q _ => ∃ (which : Int) (wd nm : V) (turn : Int), vs = [.int which, wd, nm, .int turn] ∧ 0 ≤ which ∧ which ≤ 3 ∧ Th H wd ∧ Sh wd ∧ Th H nm ∧ Sh nm ∧ 0 ≤ turn ∧ ∀ t H', Same H H' → H' t = some (.tup (dueOf (fsOf which wd nm) (dueBad which wd nm turn))) → Q (.ref t) H'
theorem ok_due (T : Txt K mg a) : FnOk P w K mg base CX0 2 a._law_due.f a._law_due.fd ["_law_which", "_law_word_here", "_law_name", "_law_turn"] spDue := by
  have G__law_is_word : FnOk P w K mg base CX0 1 a._law_is_word.f a._law_is_word.fd ["_law_thing_here"] _ := ok_law_is_word T
  have G__law_is_name : FnOk P w K mg base CX0 1 a._law_is_name.f a._law_is_name.fd ["_law_thing_here"] (spIsName True) := ok_law_is_name T
  have sc : FnScope ["_law_which", "_law_word_here", "_law_name", "_law_turn", "_law_good"] ["_law_which", "_law_word_here", "_law_name", "_law_turn"] (defScope (top 42)) := ⟨rfl, rfl, rfl, by decide +kernel, rfl, by decide +kernel, by decide +kernel⟩
  refine T._law_due.ok sc (fun vs H Q E h => ?_) (fun cdv A outer s H vs Q E hr h => ?_)
  · obtain ⟨which, wd, nm, turn, rfl, _⟩ := h
    rfl
  · obtain ⟨which, wd, nm, turn, rfl, w0, w3, hw, sw, hn, sn, t0, k⟩ := h
    refine ⟨_, (pss_cons (ps_if (PW.pt (pw_and (pt_cmpR op_ne (pv 0) pe_int (nomark _)) (pw_and1 (pt_not (pt_val (pe_call G__law_is_word (hr.mono (by first | decide | omega)) rfl T._law_is_word.mg T._law_is_word.kp T._law_is_word.b .nil pass0 (pa_cons (pv 1) pa_nil)))))))
      (pss_one (ps_ret (pe_tup (pa_cons pe_str (pa_cons pe_str pa_nil)))))
      pss_nil)
      (pss_cons (ps_if (pt_not (pt_val (pe_call G__law_is_name (hr.mono (by first | decide | omega)) rfl T._law_is_name.mg T._law_is_name.kp T._law_is_name.b .nil pass0 (pa_cons (pv 2) pa_nil))))
      (pss_one (ps_ret (pe_tup (pa_cons pe_str (pa_cons pe_str pa_nil)))))
      pss_nil)
      (pss_cons (ps_set (i := 4) sc.nd rfl (by first | exact Or.inl rfl | exact Or.inr rfl) (pe_ix ix_list (pe_lst (pa_cons (pe_lst (pa_cons pe_int (pa_cons pe_int (pa_cons pe_int (pa_cons pe_int (pa_cons pe_int pa_nil)))))) (pa_cons (pe_lst (pa_cons pe_int (pa_cons pe_int (pa_cons pe_int (pa_cons pe_int (pa_cons pe_int (pa_cons pe_int pa_nil))))))) (pa_cons (pe_lst (pa_cons pe_int (pa_cons pe_int (pa_cons pe_int (pa_cons pe_int pa_nil))))) (pa_cons (pe_lst (pa_cons pe_int (pa_cons pe_int (pa_cons pe_int (pa_cons pe_int (pa_cons pe_int pa_nil)))))) pa_nil))))) (pv 0) (fun _ _ => rfl)))
      (pss_cons (ps_if (pt_cmpR op_notIn_seq (pv 3) (pv 4) (by rfl))
      (pss_one (ps_ret (pe_tup (pa_cons pe_str (pa_cons pe_str pa_nil)))))
      pss_nil)
      (pss_cons (ps_if (pt_cmpR op_eq (pv 0) pe_int (nomark _))
      (pss_one (ps_ret (pe_tup (pa_cons pe_str (pa_cons (pv 2) pa_nil)))))
      pss_nil)
      (pss_one (ps_ret (pe_tup (pa_cons pe_str (pa_cons (pv 1) (pa_cons (pv 2) pa_nil))))))))))), ?_⟩
    walk_at "go"
    refine i_iten (fun n2 => ?_) (fun e2 => ?_)
    · walk_at "go"
      refine ⟨wd, rfl, hw, sw, fun H1 s1 => ?_⟩
      refine ⟨_, rfl, ?_⟩
      refine i_itb (fun h1 => ?_) (fun h1 => ?_)
      · have h1 : wordV wd = false := by revert h1; cases wordV wd <;> simp
        walk_at "go"
        rename_i t nt
        refine k t _ (same_new s1 nt) ?_
        rw [upd_same, show dueBad which wd nm turn = some ("word" : Str) from if_pos ⟨n2, h1⟩]; rfl
      · have h1 : wordV wd = true := by revert h1; cases wordV wd <;> simp
        exact due2 k w0 w3 hn sn t0 (fun z => by rw [h1] at z; cases z.2) s1
    · exact due2 k w0 w3 hn sn t0 (fun z => z.1 e2) same_rfl
end
end Me
set_option maxHeartbeats 8000000
namespace Me
open PySem L2


section
variable {P : Program} {w : World} {K : PySem.W.Frag} {mg : Str → Option Value} {base : Heap} {a : Ad}
def spThing : Sp := fun vs H Q _ => ∃ p, vs = [.ref p] ∧ StOk H p ∧ ∀ v H', Th H' v → v ≠ .non → v ≠ .ref p → Went p H H' → Q v H'
theorem ok_thing (T : Txt K mg a) : FnOk P w K mg base CX0 3 a._law_thing.f a._law_thing.fd ["_law_state"] spThing := by
  have G__law_pull : FnOk P w K mg base CX0 1 a._law_pull.f a._law_pull.fd ["_law_state", "_law_many"] spPull := ok_pull T
  have G__law_word : FnOk P w K mg base CX0 2 a._law_word.f a._law_word.fd ["_law_state"] spWord := ok_word T
  have sc : FnScope ["_law_state", "_law_turn"] ["_law_state"] (defScope (top 43)) := ⟨rfl, rfl, rfl, by decide +kernel, rfl, by decide +kernel, by decide +kernel⟩
  refine T._law_thing.ok sc (fun vs H Q E h => ?_) (fun cdv A outer s H vs Q E hr h => ?_)
  · obtain ⟨p, rfl, _⟩ := h
    rfl
  · obtain ⟨p, rfl, S, k⟩ := h
    refine ⟨_, (pss_cons (ps_set (i := 1) sc.nd rfl (by first | exact Or.inl rfl | exact Or.inr rfl) (pe_call G__law_pull (hr.mono (by first | decide | omega)) rfl T._law_pull.mg T._law_pull.kp T._law_pull.b .nil pass0 (pa_cons (pv 0) (pa_cons pe_int pa_nil))))
      (pss_cons (ps_if (pt_cmpR op_lt (pv 1) pe_int (nomark _))
      (pss_one (ps_ret (pe_ix ix_list (pe_lst (pa_cons (pe_lst (pa_cons pe_int (pa_cons pe_int pa_nil))) (pa_cons pe_str (pa_cons pe_dnewK (pa_cons pe_int (pa_cons pe_bl (pa_cons (pe_tup (pa_cons pe_int (pa_cons pe_int pa_nil))) pa_nil))))))) (pv 1) (fun _ _ => rfl))))
      pss_nil)
      (pss_one (ps_ret (pe_call G__law_word (hr.mono (by first | decide | omega)) rfl T._law_word.mg T._law_word.kp T._law_word.b .nil pass0 (pa_cons (pv 0) pa_nil)))))), ?_⟩
    walk_at "go"
    refine ⟨p, _, rfl, S, by decide, by decide, fun r H1 h0 h1 W1 => ?_⟩
    walk_at "go"
    refine i_itd (fun h6 => ?_) (fun h6 => ?_)
    · walk_at "go"
      rename_i p1 n1 p2 n2 p3 n3 p4 n4
      have W2 := (((W1.new (o := .lst [.int 0, .int 1]) n1).new (o := .dK []) n2).new (o := .tup [.int 0, .int 1]) n3).new (o := .lst [.ref p1, .str "01", .ref p2, .int 7, .bl true, .ref p3]) n4
      obtain ⟨v, hv, hm⟩ := at_mem (xs := [.ref p1, .str "01", .ref p2, .int 7, .bl true, .ref p3]) h0 (by simp only [List.length_cons, List.length_nil]; omega)
      refine i_ixl upd_same hv ?_
      have q1 : p1 ≠ p := W1.1.ne n1
      have q2 : p2 ≠ p := (W1.new (o := .lst [.int 0, .int 1]) n1).1.ne n2
      have q3 : p3 ≠ p := ((W1.new (o := .lst [.int 0, .int 1]) n1).new (o := .dK []) n2).1.ne n3
      walk_at "go"
      simp only [List.mem_cons, List.not_mem_nil, or_false] at hm
      rcases hm with rfl | rfl | rfl | rfl | rfl | rfl
      · exact k _ _ (.lst (same_new same_rfl n4 _ _ (same_new same_rfl n3 _ _ (same_new same_rfl n2 _ _ upd_same)))) (by intro z; cases z) (fun z => q1 (V.ref.inj z)) W2
      · exact k _ _ (.str _) (by intro z; cases z) (by intro z; cases z) W2
      · exact k _ _ (.dK (same_new same_rfl n4 _ _ (same_new same_rfl n3 _ _ upd_same))) (by intro z; cases z) (fun z => q2 (V.ref.inj z)) W2
      · exact k _ _ (.int _) (by intro z; cases z) (by intro z; cases z) W2
      · exact k _ _ (.bl _) (by intro z; cases z) (by intro z; cases z) W2
      · exact k _ _ (.tup (same_new same_rfl n4 _ _ upd_same)) (by intro z; cases z) (fun z => q3 (V.ref.inj z)) W2
    · walk_at "go"
      refine ⟨p, rfl, W1.1, fun z H2 hz W2 => ?_⟩
      exact k _ _ (.str z) (by intro z; cases z) (by intro z; cases z) (W1.trans W2)
theorem ok_bon (T : Txt K mg a) : FnOk P w K mg base CX0 3 a._law_bits_or_not.f a._law_bits_or_not.fd ["_law_state"] spOdd := by
  have G__law_pull : FnOk P w K mg base CX0 1 a._law_pull.f a._law_pull.fd ["_law_state", "_law_many"] spPull := ok_pull T
  have G__law_odd : FnOk P w K mg base CX0 2 a._law_odd.f a._law_odd.fd ["_law_state"] spOdd := ok_odd T
  have sc : FnScope ["_law_state", "_law_text", "_law_k", "_law_at"] ["_law_state"] (defScope (top 37)) := ⟨rfl, rfl, rfl, by decide +kernel, rfl, by decide +kernel, by decide +kernel⟩
  refine T._law_bits_or_not.ok sc (fun vs H Q E h => ?_) (fun cdv A outer s H vs Q E hr h => ?_)
  · obtain ⟨p, rfl, _⟩ := h
    rfl
  · obtain ⟨p, rfl, S, k⟩ := h
    refine ⟨_, (pss_cons (ps_set (i := 1) sc.nd rfl (by first | exact Or.inl rfl | exact Or.inr rfl) (pe_join pe_str (pe_lc (own := [("_law_k", 2)]) (g := gName 2) (by rfl) sc.nd (pi_range1 rfl T.range (pa_cons (pe_ix ix_list (pe_lst (pa_cons pe_int (pa_cons pe_int (pa_cons pe_int (pa_cons pe_int (pa_cons pe_int (pa_cons pe_int (pa_cons pe_int (pa_cons pe_int (pa_cons pe_int pa_nil)))))))))) (pe_call G__law_pull (hr.mono (by first | decide | omega)) rfl T._law_pull.mg T._law_pull.kp T._law_pull.b .nil pass0 (pa_cons (pv 0) (pa_cons pe_int pa_nil))) (fun _ _ => rfl)) pa_nil)) (blkOk_by (own := [("_law_k", 2)]) (N := ["_law_state", "_law_text", "_law_k", "_law_at"]) (sc := defScope (top 37)) (by decide +kernel)) (fun _ _ _ _ _ => pg_name (i := 2) sc.nd rfl (Or.inl rfl)) (fun _ _ _ _ _ => pts_nil) (fun _ _ _ _ _ => (by exact (pe_ix ix_str pe_str (pe_call G__law_pull (hr.mono (by first | decide | omega)) rfl T._law_pull.mg T._law_pull.kp T._law_pull.b .nil pass0 (pa_cons (pv 0) (pa_cons pe_int pa_nil))) (fun _ _ => rfl)))))))
      (pss_cons (ps_if (PW.pt (pw_and (pt_cmpR op_ne (pv 1) pe_str (nomark _)) (pw_and1 (pt_cmpR op_eq (pe_call G__law_pull (hr.mono (by first | decide | omega)) rfl T._law_pull.mg T._law_pull.kp T._law_pull.b .nil pass0 (pa_cons (pv 0) (pa_cons pe_int pa_nil))) pe_int (nomark _)))))
      (pss_cons (ps_set (i := 3) sc.nd rfl (by first | exact Or.inl rfl | exact Or.inr rfl) (pe_call G__law_pull (hr.mono (by first | decide | omega)) rfl T._law_pull.mg T._law_pull.kp T._law_pull.b .nil pass0 (pa_cons (pv 0) (pa_cons (pe_callB call_len_str (by rfl) T.len PySem.boot_len (pa_cons (pv 1) pa_nil)) pa_nil))))
      (pss_one (ps_set (i := 1) sc.nd rfl (by first | exact Or.inl rfl | exact Or.inr rfl) (pe_op op_add_str (pe_op op_add_str (pe_slice sl_str (pv 1) po_none (po_some (pv 3))) (pe_ix ix_str pe_str (pe_call G__law_pull (hr.mono (by first | decide | omega)) rfl T._law_pull.mg T._law_pull.kp T._law_pull.b .nil pass0 (pa_cons (pv 0) (pa_cons pe_int pa_nil))) (fun _ _ => rfl))) (pe_slice sl_str (pv 1) (po_some (pe_op op_add (pv 3) pe_int)) po_none)))))
      pss_nil)
      (pss_cons (ps_if (pt_cmpR op_eq (pe_call G__law_pull (hr.mono (by first | decide | omega)) rfl T._law_pull.mg T._law_pull.kp T._law_pull.b .nil pass0 (pa_cons (pv 0) (pa_cons pe_int pa_nil))) pe_int (nomark _))
      (pss_one (ps_ret (pe_call G__law_odd (hr.mono (by first | decide | omega)) rfl T._law_odd.mg T._law_odd.kp T._law_odd.b .nil pass0 (pa_cons (pv 0) pa_nil))))
      pss_nil)
      (pss_one (ps_ret (pv 1)))))), ?_⟩
    have rest : ∀ (z : Str) (Hn : Hp), z.length ≤ 100 → Went p H Hn → ∀ v2 v3 : Option V, tSeq (tIfS (tTest (tOp rEq (tCall spPull [] E0 (tCons (tVar 0) (tCons (tC (V.int 6)) tNil))) (tC (V.int 0)))) (tRet (tCall spOdd [] E0 (tCons (tVar 0) tNil))) tNext) (tRet (tVar 1))
        { nx := fun _ H' => Q V.non H', rt := Q } [some (.ref p), some (.str z), v2, v3] Hn := fun z Hn hz W v2 v3 => by
      walk_at "go"
      refine ⟨p, _, rfl, W.1, by decide, by decide, fun r H1 _ _ W1 => ?_⟩
      walk_at "go"
      refine i_itei (fun e => ?_) (fun e => ?_)
      · walk_at "go"
        exact ⟨p, rfl, (W.trans W1).1, fun v H2 o W2 => k v H2 o ((W.trans W1).trans W2)⟩
      · walk_at "go"
        exact k _ _ ⟨.str z, by (intro z; cases z), fun y e => by injection e with e; rw [← e]; exact hz⟩ (W.trans W1)
    walk_at "go"
    refine i_m1 ?_
    walk_at "go"
    refine ⟨⟨_, rfl⟩, ?_⟩
    refine ⟨by decide, fun D1 nD1 => ?_⟩
    have X1 := (Went.rfl' S).new (o := .lst [.int 1, .int 2, .int 3, .int 8, .int 1, .int 4, .int 0, .int 9, .int 10]) nD1
    have nD1p := S.ne nD1
    refine ⟨_, rfl, p, _, rfl, X1.1, by decide, by decide, fun r1 H2 g0 g1 W1 => ?_⟩
    obtain ⟨v1, hv1, hm1⟩ := at_mem (xs := [.int 1, .int 2, .int 3, .int 8, .int 1, .int 4, .int 0, .int 9, .int 10]) g0 (by simp only [List.length_cons, List.length_nil]; omega)
    refine i_ixl (W1.get nD1p upd_same) hv1 ?_
    obtain ⟨r2, rfl, h2a, h2b⟩ : ∃ l, v1 = V.int l ∧ 0 ≤ l ∧ l ≤ 10 := by
      simp only [List.mem_cons, List.not_mem_nil, or_false] at hm1
      rcases hm1 with rfl | rfl | rfl | rfl | rfl | rfl | rfl | rfl | rfl <;> exact ⟨_, rfl, by decide, by decide⟩
    have W2 := X1.trans W1
    refine ⟨r2, rfl, by omega, by omega, fun D nD => ?_⟩
    have Dp : D ≠ p := W2.1.ne nD
    have D0 : H D = none := W2.none nD Dp
    refine lc_range (lo := 0) (n := r2.toNat) (fun i H3 => ∃ ys : List Str, H3 D = some (.lst (ys.map V.str)) ∧ ys.length = i ∧ (∀ y ∈ ys, y.length = 1) ∧ Went p H H3) ⟨[], upd_same, rfl, by simp, W2.new nD⟩ ?_ ?_
    · rintro i H3 hi ⟨ys, e1, e2, e3, W3⟩
      refine ⟨rfl, ?_⟩
      dsimp only [tYes]
      rw [if_pos rfl]
      refine ⟨_, rfl, p, _, rfl, W3.1, by decide, by decide, fun r4 H4 q0 q1 W4 => ?_⟩
      have hl : (("01" : Str).cps.toList).length = 2 := by decide
      obtain ⟨c, hc⟩ := atI_some (xs := ("01" : Str).cps.toList) q0 (by rw [hl]; omega)
      refine ⟨_, r4, c, rfl, rfl, by decide, hc, ys.map V.str, W4.get Dp e1, by rw [List.length_map]; show ys.length < 16777216; omega, ys ++ [⟨#[c]⟩], ?_, ?_, ?_, ?_⟩
      · rw [upd_same]; simp
      · simp [e2]
      · intro y hy
        rcases List.mem_append.mp hy with hy | hy
        · exact e3 y hy
        · rw [List.mem_singleton.mp hy]; rfl
      · exact Went.wr S (W3.trans W4) D0 Dp
    · rintro H3 ⟨ys, e1, e2, e3, W3⟩
      have es : (ys.map (·.length)).sum = ys.length := by
        clear e1 e2
        induction ys with
        | nil => rfl
        | cons y r ih =>
          rw [List.map_cons, List.sum_cons, ih fun z hz => e3 z (List.mem_cons_of_mem _ hz), e3 y List.mem_cons_self, List.length_cons]
          omega
      refine ⟨_, D, ys, rfl, rfl, .inl (SqL.of e1), ?_, ?_⟩
      · rw [es]
        show ys.length + ys.length * 0 ≤ 16777216
        omega
      have lz : (Txt.join (Str.ofString "") ys).length ≤ 20 := by rw [PySem.W.KT.join_ones ys e3]; omega
      have ez : Txt.join "" ys = Txt.join (Str.ofString "") ys := rfl
      generalize hzz : Txt.join (Str.ofString "") ys = z at lz
      have hzz' : Txt.join "" ys = z := hzz
      try rw [hzz']
      try rw [hzz]
      walk_at "go"
      refine i_itesn (fun ne => ?_) (fun e => ?_)
      · have z1 : 0 < z.length := by
          refine Nat.pos_of_ne_zero fun e => ne ?_
          cases z with | mk c => 
          have : c = #[] := Array.eq_empty_of_size_eq_zero e
          rw [this]; rfl
        walk_at "go"
        refine ⟨p, _, rfl, W3.1, by decide, by decide, fun r3 H4 q0 q1 W4 => ?_⟩
        walk_at "go"
        refine i_itei (fun e => ?_) (fun e => ?_)
        · walk_at "go"
          refine ⟨z, rfl, Nat.le_trans lz (by decide), ?_⟩
          walk_at "go"
          refine ⟨p, _, rfl, W4.1, by omega, by omega, fun r5 H5 q2 q3 W5 => ?_⟩
          walk_at "go"
          have lc : ∀ (lo hi : Option Int), (cutS z lo hi).length ≤ 20 := fun lo hi => Nat.le_trans (cutS_length z lo hi) lz
          have hl : (("2aO l-" : Str).cps.toList).length = 6 := by decide
          refine ⟨_, rfl, _, rfl, _, rfl, z, rfl, Nat.le_trans lz (by decide), ?_⟩
          refine ⟨_, rfl, p, _, rfl, W5.1, by decide, by decide, fun r6 H6 q4 q5 W6 => ?_⟩
          obtain ⟨c, hc⟩ := atI_some (xs := ("2aO l-" : Str).cps.toList) q4 (by rw [hl]; omega)
          refine ⟨_, r6, c, rfl, rfl, by decide, hc, ?_⟩
          refine ⟨_, _, rfl, rfl, ?_, ?_⟩
          · exact Nat.le_trans (Nat.add_le_add (lc _ _) (Nat.le_refl 1)) (by decide)
          refine ⟨_, rfl, _, rfl, _, _, rfl, rfl, _, rfl, z, rfl, Nat.le_trans lz (by decide), ?_⟩
          have l1 : (cutS z none (some r5) ++ (⟨#[c]⟩ : Str)).length ≤ 21 := by
            rw [PySem.Str.length_append]
            exact Nat.add_le_add (lc _ _) (Nat.le_refl 1)
          have l2 : ((cutS z none (some r5) ++ (⟨#[c]⟩ : Str)) ++ cutS z (some (r5 + 1)) none).length ≤ 41 := by
            rw [PySem.Str.length_append]
            exact Nat.add_le_add l1 (lc _ _)
          refine ⟨_, _, rfl, rfl, Nat.le_trans (Nat.add_le_add l1 (lc _ _)) (by decide), ?_⟩
          exact rest _ _ (Nat.le_trans l2 (by decide)) ((W3.trans W4).trans (W5.trans W6)) _ _
        · exact rest z _ (by omega) (W3.trans W4) _ _
      · exact rest z _ (by omega) W3 _ _
end
end Me
set_option maxHeartbeats 8000000
namespace Me
open PySem L2


theorem Went.keep {p : Addr} {H H1 H2 : Hp} (w : Went p H H1) (k : Same H1 H2) : Went p H H2 := ⟨w.1.keep k, fun a u ne e => k _ _ (w.2.1 a u ne e), fun L e => (w.2.2 L e).keep k⟩
theorem sm_tup {H : Hp} {t d : Addr} {xs : List V} (ht : H t = some (.tup xs)) (hd : H d = some (.tup xs)) (hl : xs.length ≤ 1000) (hf : ∀ x ∈ xs, flatV x = true) : Sm H 1 (.ref t) (.ref d) := by
  refine .inr ⟨t, d, xs, xs, rfl, rfl, .inl ⟨ht, hd⟩, rfl, hl, fun i x y hx hy => ?_⟩
  rw [hx] at hy
  cases hy
  exact ⟨rfl, hf x (List.mem_of_getElem? hx)⟩
theorem flat_due {fs : List V} {r : Option Str} (h : r = none → ∀ x ∈ fs, flatV x = true) : ∀ x ∈ dueOf fs r, flatV x = true := by
  cases r with
  | none =>
    intro x hx
    rcases List.mem_cons.mp hx with rfl | hx
    · rfl
    · exact h rfl x hx
  | some z =>
    intro x hx
    have hx : x ∈ [V.str "refused", V.str z] := hx
    simp only [List.mem_cons, List.not_mem_nil, or_false] at hx
    rcases hx with rfl | rfl <;> rfl
theorem len_due {fs : List V} {r : Option Str} (h : fs.length ≤ 10) : (dueOf fs r).length ≤ 1000 := by
  cases r with
  | none => show fs.length + 1 ≤ 1000; omega
  | some z => show (2 : Nat) ≤ 1000; decide
theorem flat_fs {which turn : Int} {wd nm : V} (e : dueBad which wd nm turn = none) : ∀ x ∈ fsOf which wd nm, flatV x = true := by
  obtain ⟨g1, g2, _⟩ := due_ok e
  intro x hx
  unfold fsOf at hx
  by_cases h : which = 2
  · rw [if_pos h] at hx
    rw [List.mem_singleton.mp hx]; exact (scal_name g2).2
  · rw [if_neg h] at hx
    simp only [List.mem_cons, List.not_mem_nil, or_false] at hx
    rcases hx with rfl | rfl
    · exact (scal_word (g1 h)).2
    · exact (scal_name g2).2
theorem len_fs {which : Int} {wd nm : V} : (fsOf which wd nm).length ≤ 10 := by
  unfold fsOf
  split
  · show (1 : Nat) ≤ 10; decide
  · show (2 : Nat) ≤ 10; decide
def tM3 : TS := tSeq (tAsg (tCall spThing [] E0 (tCons (tVar 1) tNil)) (gName 6)) (tFor (iRng1 (tCons (tC (.int 4)) tNil)) (gName 7) (tIfS (tNot (tB (tCall (spSame 1) [] E0 (tCons (tCall spTold [] E0 (tCons (tVar 7) (tCons (tVar 3) (tCons (tVar 4) (tCons (tVar 5) (tCons (tVar 6) tNil)))))) (tCons (tCall spDue [] E0 (tCons (tVar 7) (tCons (tVar 3) (tCons (tVar 4) (tCons (tVar 5) tNil))))) tNil))))) (tRet (tC (V.bl false))) tNext))
def tM2 (K : PySem.W.Frag) : TS := tSeq (tAsg (tCall spPull [] E0 (tCons (tVar 1) (tCons (tC (.int 18)) tNil))) (gName 5))
  (tSeq (tIfS (tTest (tOp (rI0 fun i j => V.bl (decide (j < i))) (tVar 5) (tC (V.int 11)))) (tAsg (tOp (rIxL K) (tLst (tCons (tC (V.int 0)) (tCons (tC (V.int 1)) (tCons (tC (V.int 2)) (tCons (tC (V.int 3)) (tCons (tC (V.int 4)) (tCons (tC (V.int 5)) tNil))))))) (tOp (rI0 fun i j => V.int (i - j)) (tVar 5) (tC (V.int 12)))) (gName 5)) tNext) tM3)
section
variable {sa p : Addr} {D : Ends} {v2 v5 v6 v7 : Option V} {H : Hp} {K : PySem.W.Frag}
def Nx (sa p : Addr) (D : Ends) : Prop := ∀ (H2 : Hp) (v2 v3 v4 v5 v6 v7 : Option V), StOk H2 p → D.nx [some (.ref sa), some (.ref p), v2, v3, v4, v5, v6, v7] H2
theorem m3 (k : Nx sa p D) (S : StOk H p) {wd nm : V} {turn : Int} (hw : Odd p H wd) (hn : Odd p H nm) (t0 : 0 ≤ turn) : tM3 D [some (.ref sa), some (.ref p), v2, some wd, some nm, some (.int turn), v6, v7] H := by
  unfold tM3
  walk_at "go"
  refine ⟨p, rfl, S, fun o H1 ho on op W1 => ?_⟩
  have hw1 := hw.went W1
  have hn1 := hn.went W1
  walk_at "go"
  refine ⟨4, rfl, by decide, by decide, for_range (n := 4) (fun _ σ H' => Same H1 H' ∧ ∃ v, σ = [some (.ref sa), some (.ref p), v2, some wd, some nm, some (.int turn), some o, v]) ⟨same_rfl, _, rfl⟩ ?_ ?_⟩
  · rintro i σ H2 hi ⟨s2, v, rfl⟩
    have hi0 : (0 : Int) + (i : Int) = (i : Int) := Int.zero_add _
    rw [hi0]
    walk_at "go"
    refine ⟨(i : Int), wd, nm, turn, o, rfl, by omega, by omega, hw1.th.same s2, hw1.sh, hn1.th.same s2, hn1.sh, t0, ho.same s2, on, fun t H3 s3 ht => ?_⟩
    walk_at "go"
    have s23 := s2.trans s3
    refine ⟨(i : Int), wd, nm, turn, rfl, by omega, by omega, hw1.th.same s23, hw1.sh, hn1.th.same s23, hn1.sh, t0, fun d H4 s4 hd => ?_⟩
    refine ⟨_, _, rfl, sm_tup (s4 _ _ ht) hd (len_due len_fs) (flat_due flat_fs), ?_⟩
    refine ⟨_, rfl, i_no rfl ?_⟩
    exact ⟨s23.trans s4, _, rfl⟩
  · rintro σ H2 ⟨s2, v, rfl⟩
    exact k _ _ _ _ _ _ _ (W1.1.keep s2)
theorem m2 (k : Nx sa p D) (S : StOk H p) {wd nm : V} (hw : Odd p H wd) (hn : Odd p H nm) : tM2 K D [some (.ref sa), some (.ref p), v2, some wd, some nm, v5, v6, v7] H := by
  unfold tM2
  walk_at "go"
  refine ⟨p, _, rfl, S, by decide, by decide, fun r H1 r0 r1 W1 => ?_⟩
  walk_at "go"
  refine i_itd (fun h => ?_) (fun h => ?_)
  · walk_at "go"
    rename_i q nq
    obtain ⟨v, hv, hm⟩ := at_mem (xs := [.int 0, .int 1, .int 2, .int 3, .int 4, .int 5]) (i := r - 12) (by omega) (by simp only [List.length_cons, List.length_nil]; omega)
    refine i_ixl upd_same hv ?_
    obtain ⟨turn, rfl, t0⟩ : ∃ l, v = V.int l ∧ 0 ≤ l := by
      simp only [List.mem_cons, List.not_mem_nil, or_false] at hm
      rcases hm with rfl | rfl | rfl | rfl | rfl | rfl <;> exact ⟨_, rfl, by decide⟩
    have W2 := W1.new (o := .lst [.int 0, .int 1, .int 2, .int 3, .int 4, .int 5]) nq
    exact m3 k W2.1 (hw.went W2) (hn.went W2) t0
  · exact m3 k W1.1 (hw.went W1) (hn.went W1) r0
end
section
variable {P : Program} {w : World} {K : PySem.W.Frag} {mg : Str → Option Value} {base : Heap} {a : Ad}
def spLaw (K : PySem.W.Frag) : Sp := fun vs H Q _ => ∃ (s : Addr) (ns : List Int), vs = [.ref s] ∧ SqL K H s (ns.map V.int) ∧ ns.length ≤ 63 ∧ ∀ H', Q (.bl true) H'
theorem ok_law (T : Txt K mg a) : FnOk P w K mg base CX0 9 a.law.f a.law.fd ["_law_script"] (spLaw K) := by
  have G__law_start : FnOk P w K mg base CX0 1 a._law_start.f a._law_start.fd ["_law_script"] (spStart K) := ok_start T
  have G__law_bits_or_not : FnOk P w K mg base CX0 3 a._law_bits_or_not.f a._law_bits_or_not.fd ["_law_state"] spOdd := ok_bon T
  have G__law_word : FnOk P w K mg base CX0 2 a._law_word.f a._law_word.fd ["_law_state"] spWord := ok_word T
  have G__law_pull : FnOk P w K mg base CX0 1 a._law_pull.f a._law_pull.fd ["_law_state", "_law_many"] spPull := ok_pull T
  have G__law_odd : FnOk P w K mg base CX0 2 a._law_odd.f a._law_odd.fd ["_law_state"] spOdd := ok_odd T
  have G__law_thing : FnOk P w K mg base CX0 3 a._law_thing.f a._law_thing.fd ["_law_state"] spThing := ok_thing T
  have G__law_told : FnOk P w K mg base CX0 8 a._law_told.f a._law_told.fd ["_law_which", "_law_word_here", "_law_name", "_law_turn", "_law_other"] spTold := ok_told T
  have G__law_due : FnOk P w K mg base CX0 2 a._law_due.f a._law_due.fd ["_law_which", "_law_word_here", "_law_name", "_law_turn"] spDue := ok_due T
  have G__law_same : FnOk P w K mg base CX0 3 a._law_same.f a._law_same.fd ["_law_told_here", "_law_due_here"] (spSame 1) := ok_same T 1
  have sc : FnScope ["_law_script", "_law_state", "_law_k", "_law_word_here", "_law_name", "_law_turn", "_law_other", "_law_which"] ["_law_script"] (defScope (top 44)) := ⟨rfl, rfl, rfl, by decide +kernel, rfl, by decide +kernel, by decide +kernel⟩
  refine T.law.ok sc (fun vs H Q E h => ?_) (fun cdv A outer s H vs Q E hr h => ?_)
  · obtain ⟨p, _, rfl, _⟩ := h
    rfl
  · obtain ⟨sa, ns, rfl, hS, hn, k⟩ := h
    refine ⟨_, (pss_cons (ps_set (i := 1) sc.nd rfl (by first | exact Or.inl rfl | exact Or.inr rfl) (pe_call G__law_start (hr.mono (by first | decide | omega)) rfl T._law_start.mg T._law_start.kp T._law_start.b .nil pass0 (pa_cons (pv 0) pa_nil)))
      (pss_cons (ps_for PassesOwn.never rfl (pi_range1 rfl T.range (pa_cons pe_int pa_nil)) (pg_name (i := 2) sc.nd rfl (by first | exact Or.inl rfl | exact Or.inr rfl))
      (pss_cons (ps_set (i := 3) sc.nd rfl (by first | exact Or.inl rfl | exact Or.inr rfl) (pe_call G__law_bits_or_not (hr.mono (by first | decide | omega)) rfl T._law_bits_or_not.mg T._law_bits_or_not.kp T._law_bits_or_not.b .nil pass0 (pa_cons (pv 1) pa_nil)))
      (pss_cons (ps_set (i := 4) sc.nd rfl (by first | exact Or.inl rfl | exact Or.inr rfl) (pe_call G__law_word (hr.mono (by first | decide | omega)) rfl T._law_word.mg T._law_word.kp T._law_word.b .nil pass0 (pa_cons (pv 1) pa_nil)))
      (pss_cons (ps_if (pt_cmpR op_eq (pe_call G__law_pull (hr.mono (by first | decide | omega)) rfl T._law_pull.mg T._law_pull.kp T._law_pull.b .nil pass0 (pa_cons (pv 1) (pa_cons pe_int pa_nil))) pe_int (nomark _))
      (pss_one (ps_set (i := 4) sc.nd rfl (by first | exact Or.inl rfl | exact Or.inr rfl) (pe_call G__law_odd (hr.mono (by first | decide | omega)) rfl T._law_odd.mg T._law_odd.kp T._law_odd.b .nil pass0 (pa_cons (pv 1) pa_nil))))
      pss_nil)
      (pss_cons (ps_set (i := 5) sc.nd rfl (by first | exact Or.inl rfl | exact Or.inr rfl) (pe_call G__law_pull (hr.mono (by first | decide | omega)) rfl T._law_pull.mg T._law_pull.kp T._law_pull.b .nil pass0 (pa_cons (pv 1) (pa_cons pe_int pa_nil))))
      (pss_cons (ps_if (pt_cmpR op_gt (pv 5) pe_int (nomark _))
      (pss_one (ps_set (i := 5) sc.nd rfl (by first | exact Or.inl rfl | exact Or.inr rfl) (pe_ix ix_list (pe_lst (pa_cons pe_int (pa_cons pe_int (pa_cons pe_int (pa_cons pe_int (pa_cons pe_int (pa_cons pe_int pa_nil))))))) (pe_op op_sub (pv 5) pe_int) (fun _ _ => rfl))))
      pss_nil)
      (pss_cons (ps_set (i := 6) sc.nd rfl (by first | exact Or.inl rfl | exact Or.inr rfl) (pe_call G__law_thing (hr.mono (by first | decide | omega)) rfl T._law_thing.mg T._law_thing.kp T._law_thing.b .nil pass0 (pa_cons (pv 1) pa_nil)))
      (pss_one (ps_for PassesOwn.never rfl (pi_range1 rfl T.range (pa_cons pe_int pa_nil)) (pg_name (i := 7) sc.nd rfl (by first | exact Or.inl rfl | exact Or.inr rfl))
      (pss_one (ps_if (pt_not (pt_val (pe_call G__law_same (hr.mono (by first | decide | omega)) rfl T._law_same.mg T._law_same.kp T._law_same.b .nil pass0 (pa_cons (pe_call G__law_told (hr.mono (by first | decide | omega)) rfl T._law_told.mg T._law_told.kp T._law_told.b .nil pass0 (pa_cons (pv 7) (pa_cons (pv 3) (pa_cons (pv 4) (pa_cons (pv 5) (pa_cons (pv 6) pa_nil)))))) (pa_cons (pe_call G__law_due (hr.mono (by first | decide | omega)) rfl T._law_due.mg T._law_due.kp T._law_due.b .nil pass0 (pa_cons (pv 7) (pa_cons (pv 3) (pa_cons (pv 4) (pa_cons (pv 5) pa_nil))))) pa_nil)))))
      (pss_one (ps_ret pe_bl))
      pss_nil)))))))))))
      (pss_one (ps_ret pe_bl)))), ?_⟩
    walk_at "go"
    refine ⟨sa, ns, rfl, hS, hn, fun p H1 np S1 _ => ?_⟩
    walk_at "go"
    refine ⟨6, rfl, by decide, by decide, for_range (n := 6) (fun i σ H2 => StOk H2 p ∧ ∃ v2 v3 v4 v5 v6 v7, σ = [some (.ref sa), some (.ref p), v2, v3, v4, v5, v6, v7]) ⟨S1, _, _, _, _, _, _, rfl⟩ ?_ ?_⟩
    · rintro i σ H2 hi ⟨S2, v2, v3, v4, v5, v6, v7, rfl⟩
      rw [Int.zero_add]
      have kx : Nx sa p { nx := fun σ H2 => StOk H2 p ∧ ∃ v2 v3 v4 v5 v6 v7, σ = [some (V.ref sa), some (V.ref p), v2, v3, v4, v5, v6, v7], rt := Q, bk := tRet (tC (V.bl true)) { nx := fun _ H' => Q V.non H', rt := Q }, ct := fun σ H2 => StOk H2 p ∧ ∃ v2 v3 v4 v5 v6 v7, σ = [some (V.ref sa), some (V.ref p), v2, v3, v4, v5, v6, v7] } := fun H2 v2 v3 v4 v5 v6 v7 S => ⟨S, _, _, _, _, _, _, rfl⟩
      walk_at "go"
      refine ⟨p, rfl, S2, fun wd H3 hw W3 => ?_⟩
      walk_at "go"
      refine ⟨p, rfl, W3.1, fun z H4 hz W4 => ?_⟩
      walk_at "go"
      refine ⟨p, _, rfl, W4.1, by decide, by decide, fun r H5 _ _ W5 => ?_⟩
      have hw5 := (hw.went W4).went W5
      walk_at "go"
      refine i_itei (fun e => ?_) (fun e => ?_)
      · walk_at "go"
        refine ⟨p, rfl, W5.1, fun nm H6 hnm W6 => ?_⟩
        exact m2 kx W6.1 (hw5.went W6) hnm
      · exact m2 kx W5.1 hw5 ⟨.str z, by (intro z; cases z), fun y e => by injection e with e; rw [← e]; exact hz⟩
    · rintro σ H2 ⟨S2, v2, v3, v4, v5, v6, v7, rfl⟩
      walk_at "go"
      exact k _
end
end Me
set_option maxHeartbeats 8000000
namespace Me
open PySem L2
/-! ### from the head's facts -/
theorem eqB_ok {a b : Option Bool} (h : eqB a b = true) : a = b := of_decide_eq_true h
theorem oexB_ok {K : PySem.W.Frag} {C : Addr} (h : oexB K C = true) : ∃ nm q N bs bm sn sub ab col dd k0 k1 k2 k3 k5, K.lookup C = some (excClassObj nm q C N bs bm true sn sub ab col dd k0 k1 k2 k3 k5 "ValueError.__new__") ∧ PySem.HandSPX.refsVE bm = true := by
  unfold oexB at h
  split at h
  · rename_i dd cd sl lk
    split at h
    · rename_i C' bm k0 k1 k2 k3 n k5 em es
      simp only [Bool.and_eq_true, beq_iff_eq, Bool.not_eq_true'] at h
      obtain ⟨rfl, rfl, nd, hd, ht⟩ := h
      obtain ⟨nm, bs, mro, ns, qn, hdc, sn, sub, ab, col, del⟩ := cd
      dsimp only at em nd hd
      subst em nd hd
      have esl : sl = #[k0, k1, k2, k3, some (.builtin "ValueError.__new__"), k5] := by
        obtain ⟨l⟩ := sl
        exact congrArg Array.mk es
      subst esl
      exact ⟨nm, qn, ns, bs, bm, sn, sub, ab, col, dd, k0, k1, k2, k3, k5, lk, ht⟩
    · cases h
  · cases h
theorem kcs_mem {i : Nat} (h : i < 11) : kcs.getD i ("", [], false) ∈ kcs := by
  have key : ∀ i : Nat, i < 11 → kcs.getD i ("", [], false) ∈ kcs := by decide +kernel
  exact key i h
theorem kn_inj {i j : Nat} (hi : i < 11) (hj : j < 11) : decide (kn i = kn j) = decide (i = j) := by
  have key : ∀ i : Nat, i < 11 → ∀ j : Nat, j < 11 → decide (kn i = kn j) = decide (i = j) := by decide +kernel
  exact key i hi j hj
theorem kn_ini {i : Nat} (hi : i < 11) (h0 : i ≠ 0) : (kcs.getD i ("", [], false)).2.2 = true := by
  have key : ∀ i : Nat, i < 11 → i ≠ 0 → (kcs.getD i ("", [], false)).2.2 = true := by decide +kernel
  exact key i hi h0
theorem all_and {l : List Bool} (h : l.all id = true) : ∀ b ∈ l, b = true := fun b hb => List.all_eq_true.mp h b hb
section
variable {K : PySem.W.Frag} {mg : Str → Option Value} {h : Heap}
theorem kc_ok (X : K.In h) (G : h.Ns mainGlobals mg) (c2 : exB K = true) (E : Nat → DA) (hE : ∀ i, i < 11 → (E i).f = He.ma K (He.ga K (kn i)) "__eq__") (i : Nat) (hi : i < 11) : Kc K mg (fun i => He.ga K (kn i)) E i := by
  have ex := all_and c2
  unfold exL at ex
  have x1 : kcs.all (fun y => (kcL K y.1 y.2.2).all id) = true := ex _ (by simp)
  have x5 : He.eqO (PySem.W.specialIn K (.builtin "object.__class__") "__get__") (some (some (.builtin "getset_descriptor.__get__"))) = true := ex _ (by simp)
  have x6 : eqB (PySem.W.takesIn K (.builtin "object.__class__")) (some true) = true := ex _ (by simp)
  have z := all_and (List.all_eq_true.mp x1 _ (kcs_mem hi))
  unfold kcL at z
  have z1 : He.eqO (PySem.W.nsIn K mainGlobals (kn i)) (some (some (.ref (He.ga K (kn i))))) = true := z _ (by simp [kn])
  have z2 : PySem.W.plainGet K (He.ga K (kn i)) Str.empty = true := z _ (by simp [kn])
  have z3 : PySem.W.hasDictIn K (He.ga K (kn i)) = true := z _ (by simp [kn])
  have z4 : PySem.W.plainOver K (He.ga K (kn i)) = true := z _ (by simp [kn])
  have z5 : He.eqO (PySem.W.findIn K (.ref (He.ga K (kn i))) "__setattr__") (some (some (.builtin "object.__setattr__"))) = true := z _ (by simp [kn])
  have z6 : PySem.W.makesIn K (He.ga K (kn i)) = true := z _ (by simp [kn])
  have z7 : PySem.W.keepIn K (.ref (He.ga K (kn i))) = true := z _ (by simp [kn])
  have z8 : He.eqO (PySem.W.findIn K (.ref (He.ga K (kn i))) "__class__") (some (some (.builtin "object.__class__"))) = true := z _ (by simp [kn])
  have z9 : eqB (PySem.W.mroIn K (He.ga K (kn i)) (.type "object")) (some true) = true := z _ (by simp [kn])
  have z10 : allK.all (fun f => He.eqO (PySem.W.findIn K (.ref (He.ga K (kn i))) f) (some none)) = true := z _ (by simp [kn])
  have z11 : He.eqO (PySem.W.findIn K (.ref (He.ga K (kn i))) "__eq__") (some (some (.ref (He.ma K (He.ga K (kn i)) "__eq__")))) = true := z _ (by simp [kn])
  have z12 : PySem.W.isFn K (.ref (He.ma K (He.ga K (kn i)) "__eq__")) = true := z _ (by simp [kn])
  have z14 : kcs.all (fun y => eqB (PySem.W.kitOne K (.ref (He.ga K (kn i))) (.ref (He.ga K y.1))) (some (decide (kn i = y.1)))) = true := z _ (by simp [kn])
  have z15 : tys.all (fun t => eqB (PySem.W.kitOne K (.ref (He.ga K (kn i))) (.type t)) (some false)) = true := z _ (by simp [kn])
  have z16 : tys.all (fun t => eqB (PySem.W.kitOne K (.type t) (.ref (He.ga K (kn i)))) (some false)) = true := z _ (by simp [kn])
  refine { gl := PySem.W.mg_of X G (He.eqO_ok z1), cl := ⟨z2, z3, z4, He.eqO_ok z5⟩, mks := z6, kp := z7, cc := He.eqO_ok z8, cm := eqB_ok z9, no := (fun f hf => He.eqO_ok (List.all_eq_true.mp z10 f hf)), eqA := ?_, eqF := ?_, kt := (fun j hj => ?_), kT := (fun t ht => eqB_ok (List.all_eq_true.mp z15 t ht)), tK := (fun t ht => eqB_ok (List.all_eq_true.mp z16 t ht)), sp := He.eqO_ok x5, tk := eqB_ok x6 }
  · rw [hE i hi]; exact He.eqO_ok z11
  · rw [hE i hi]; exact z12
  · have q := eqB_ok (List.all_eq_true.mp z14 _ (kcs_mem hj))
    have e : decide (kn i = (kcs.getD j ("", [], false)).1) = decide (i = j) := kn_inj hi hj
    rw [e] at q
    exact q
theorem mk_ok (c2 : exB K = true) (i : Nat) (hi : i < 11) (h0 : i ≠ 0) : Mk K (He.ga K (kn i)) (He.ma K (He.ga K (kn i)) "__init__") := by
  have ex := all_and c2
  unfold exL at ex
  have x1 : kcs.all (fun y => (kcL K y.1 y.2.2).all id) = true := ex _ (by simp)
  have z := all_and (List.all_eq_true.mp x1 _ (kcs_mem hi))
  unfold kcL at z
  rw [kn_ini hi h0] at z
  have z6 : PySem.W.makesIn K (He.ga K (kn i)) = true := z _ (by simp [kn])
  have z7 : PySem.W.keepIn K (.ref (He.ga K (kn i))) = true := z _ (by simp [kn])
  have z17 : (He.eqO (PySem.W.findIn K (.ref (He.ga K (kn i))) "__init__") (some (some (.ref (He.ma K (He.ga K (kn i)) "__init__")))) && (PySem.W.isFn K (.ref (He.ma K (He.ga K (kn i)) "__init__")) && PySem.W.keepIn K (.ref (He.ma K (He.ga K (kn i)) "__init__")))) = true := z _ (by simp [kn])
  obtain ⟨a1, a2⟩ := Bool.and_eq_true_iff.mp z17
  exact ⟨z6, He.eqO_ok a1, (Bool.and_eq_true_iff.mp a2).1, z7⟩
theorem ini0_ok (c2 : exB K = true) : PySem.W.findIn K (.ref (He.ga K (kn 0))) "__init__" = some (some (.builtin "object.__init__")) := by
  have ex := all_and c2
  unfold exL at ex
  have x1 : kcs.all (fun y => (kcL K y.1 y.2.2).all id) = true := ex _ (by simp)
  have z := all_and (List.all_eq_true.mp x1 _ (kcs_mem (i := 0) (by decide)))
  unfold kcL at z
  have z17 : He.eqO (PySem.W.findIn K (.ref (He.ga K (kn 0))) "__init__") (some (some (.builtin "object.__init__"))) = true := z _ (by
    have e : (kcs.getD 0 ("", [], false)).2.2 = false := by decide +kernel
    rw [e]
    simp [kn])
  exact He.eqO_ok z17
theorem bad_ok (X : K.In h) (G : h.Ns mainGlobals mg) (c2 : exB K = true) {I : DA} (hI : I.f = He.ma K (He.ga K "BadKind") "__init__")
    (fn : FunD K "__init__" "BadKind.__init__" (defArgs (inClass (top 8) 0)) (defBody (inClass (top 8) 0)) (defScope (inClass (top 8) 0)) [] [] I.f I.fd) (b : Binds K I.fd ["self", "part"] []) : BadT K mg (He.ga K "BadKind") I := by
  have ex := all_and c2
  unfold exL at ex
  have y1 : oexB K (He.ga K "BadKind") = true := ex _ (by simp)
  have y2 : He.eqO (PySem.W.nsIn K mainGlobals "BadKind") (some (some (.ref (He.ga K "BadKind")))) = true := ex _ (by simp)
  have y3 : He.eqO (PySem.W.findIn K (.ref (He.ga K "BadKind")) "__setattr__") (some (some (.builtin "object.__setattr__"))) = true := ex _ (by simp)
  have y4 : eqB (PySem.W.subIn K (.ref (He.ga K "BadKind")) (.type "BaseException")) (some true) = true := ex _ (by simp)
  have y5 : decide (PySem.W.typeIn K (.ref (He.ga K "BadKind")) = some (.type "type")) = true := ex _ (by simp)
  have y6 : PySem.W.keepIn K (.ref (He.ga K "BadKind")) = true := ex _ (by simp)
  have y7 : He.eqO (PySem.W.findIn K (.ref (He.ga K "BadKind")) "__getattribute__") (some (some (.builtin "BaseException.__getattribute__"))) = true := ex _ (by simp)
  have y8 : He.eqO (PySem.W.findIn K (.ref (He.ga K "BadKind")) "__getattr__") (some none) = true := ex _ (by simp)
  have y9 : PySem.W.hasDictIn K (He.ga K "BadKind") = true := ex _ (by simp)
  have y10 : eqB (PySem.W.exmOne K (.ref (He.ga K "BadKind")) (.ref (He.ga K "BadKind"))) (some true) = true := ex _ (by simp)
  have y11 : He.eqO (PySem.W.findIn K (.ref (He.ga K "BadKind")) "part") (some none) = true := ex _ (by simp)
  have y12 : He.eqO (PySem.W.findIn K (.ref (He.ga K "BadKind")) "__init__") (some (some (.ref (He.ma K (He.ga K "BadKind") "__init__")))) = true := ex _ (by simp)
  have y13 : decide (PySem.W.typeIn K (.ref (He.ma K (He.ga K "BadKind") "__init__")) = some (.type "function")) = true := ex _ (by simp)
  exact { ox := ⟨oexB_ok y1, He.eqO_ok y3, eqB_ok y4, of_decide_eq_true y5, y6⟩, gl := PySem.W.mg_of X G (He.eqO_ok y2), xf := ⟨He.eqO_ok y7, He.eqO_ok y8, eqB_ok y4, y9⟩, ex := eqB_ok y10, no := He.eqO_ok y11, ini := by rw [hI]; exact He.eqO_ok y12, ti := by rw [hI]; exact of_decide_eq_true y13, fn := fn, b := b }
theorem vals_nil {ds : List Value} (r : Vals [] ds) : ds = [] := by cases r; rfl
theorem vals_non {ds : List Value} (r : Vals [V.non] ds) : ds = [.none] := by
  cases r with
  | cons a b =>
    cases b
    rw [show _ = Value.none from a]
theorem mk_txt (X : K.In h) (G : h.Ns mainGlobals mg) (e : obsK K = valK) : ∃ a : Ad, a.law.f = He.ga K "law" ∧ Txt K mg a := by
  have c : He.SaysD fa fn K := congrArg (fun z : AlK => z.1) e
  have c2 : exB K = true := congrArg (fun z : AlK => z.2) e
  obtain ⟨fd0, F0⟩ := c.def_ 0 (d := dG "is_int" 1) rfl
  obtain ⟨fd1, F1⟩ := c.def_ 1 (d := dG "is_int_within" 2) rfl
  obtain ⟨fd2, F2⟩ := c.def_ 2 (d := dG "is_name" 3) rfl
  obtain ⟨fd3, F3⟩ := c.def_ 3 (d := dG "is_bits" 4) rfl
  obtain ⟨fd4, F4⟩ := c.def_ 4 (d := dG "is_word" 5) rfl
  obtain ⟨fd5, F5⟩ := c.def_ 5 (d := dG "is_simple" 15) rfl
  obtain ⟨fd6, F6⟩ := c.def_ 6 (d := dG "check_word_and_name" 22) rfl
  obtain ⟨fd7, F7⟩ := c.def_ 7 (d := dG "are_ways" 23) rfl
  obtain ⟨fd8, F8⟩ := c.def_ 8 (d := dG "are_parts" 24) rfl
  obtain ⟨fd9, F9⟩ := c.def_ 9 (d := dG "have_unlike_names" 25) rfl
  obtain ⟨fd10, F10⟩ := c.def_ 10 (d := dG "are_apart" 26) rfl
  obtain ⟨fd11, F11⟩ := c.def_ 11 (d := dG "_law_is_int" 28) rfl
  obtain ⟨fd12, F12⟩ := c.def_ 12 (d := dG "_law_same_dict" 29) rfl
  obtain ⟨fd13, F13⟩ := c.def_ 13 (d := dG "_law_same" 30) rfl
  obtain ⟨fd14, F14⟩ := c.def_ 14 (d := dG "_law_start" 31) rfl
  obtain ⟨fd15, F15⟩ := c.def_ 15 (d := dG "_law_pull" 32) rfl
  obtain ⟨fd16, F16⟩ := c.def_ 16 (d := dG "_law_odd" 33) rfl
  obtain ⟨fd17, F17⟩ := c.def_ 17 (d := dG "_law_word" 34) rfl
  obtain ⟨fd18, F18⟩ := c.def_ 18 (d := dG "_law_is_name" 35) rfl
  obtain ⟨fd19, F19⟩ := c.def_ 19 (d := dG "_law_object" 36) rfl
  obtain ⟨fd20, F20⟩ := c.def_ 20 (d := dG "_law_bits_or_not" 37) rfl
  obtain ⟨fd21, F21⟩ := c.def_ 21 (d := dG "_law_is_word" 38) rfl
  obtain ⟨fd22, F22⟩ := c.def_ 22 (d := dG "_law_object_of" 39) rfl
  obtain ⟨fd23, F23⟩ := c.def_ 23 (d := dG "_law_make" 40) rfl
  obtain ⟨fd24, F24⟩ := c.def_ 24 (d := dG "_law_told" 41) rfl
  obtain ⟨fd25, F25⟩ := c.def_ 25 (d := dG "_law_due" 42) rfl
  obtain ⟨fd26, F26⟩ := c.def_ 26 (d := dG "_law_thing" 43) rfl
  obtain ⟨fd27, F27⟩ := c.def_ 27 (d := dG "law" 44) rfl
  obtain ⟨fd28, F28⟩ := c.def_ 28 (d := dM "BadKind" "__init__" 8 0 []) rfl
  obtain ⟨fd29, F29⟩ := c.def_ 29 (d := dM "Nothing" "__eq__" 10 0 []) rfl
  obtain ⟨fd30, F30⟩ := c.def_ 30 (d := dM "Number" "__init__" 11 0 [.non]) rfl
  obtain ⟨fd31, F31⟩ := c.def_ 31 (d := dM "Number" "__eq__" 11 1 []) rfl
  obtain ⟨fd32, F32⟩ := c.def_ 32 (d := dM "Bits" "__init__" 12 0 []) rfl
  obtain ⟨fd33, F33⟩ := c.def_ 33 (d := dM "Bits" "__eq__" 12 1 []) rfl
  obtain ⟨fd34, F34⟩ := c.def_ 34 (d := dM "Call" "__init__" 13 0 []) rfl
  obtain ⟨fd35, F35⟩ := c.def_ 35 (d := dM "Call" "__eq__" 13 1 []) rfl
  obtain ⟨fd36, F36⟩ := c.def_ 36 (d := dM "Items" "__init__" 14 0 [.non]) rfl
  obtain ⟨fd37, F37⟩ := c.def_ 37 (d := dM "Items" "__eq__" 14 1 []) rfl
  obtain ⟨fd38, F38⟩ := c.def_ 38 (d := dM "Way" "__init__" 16 0 []) rfl
  obtain ⟨fd39, F39⟩ := c.def_ 39 (d := dM "Way" "__eq__" 16 1 []) rfl
  obtain ⟨fd40, F40⟩ := c.def_ 40 (d := dM "Door" "__init__" 17 0 []) rfl
  obtain ⟨fd41, F41⟩ := c.def_ 41 (d := dM "Door" "__eq__" 17 1 []) rfl
  obtain ⟨fd42, F42⟩ := c.def_ 42 (d := dM "Part" "__init__" 18 0 []) rfl
  obtain ⟨fd43, F43⟩ := c.def_ 43 (d := dM "Part" "__eq__" 18 1 []) rfl
  obtain ⟨fd44, F44⟩ := c.def_ 44 (d := dM "Room" "__init__" 19 0 []) rfl
  obtain ⟨fd45, F45⟩ := c.def_ 45 (d := dM "Room" "__eq__" 19 1 []) rfl
  obtain ⟨fd46, F46⟩ := c.def_ 46 (d := dM "Choice" "__init__" 20 0 []) rfl
  obtain ⟨fd47, F47⟩ := c.def_ 47 (d := dM "Choice" "__eq__" 20 1 []) rfl
  obtain ⟨fd48, F48⟩ := c.def_ 48 (d := dM "Row" "__init__" 21 0 []) rfl
  obtain ⟨fd49, F49⟩ := c.def_ 49 (d := dM "Row" "__eq__" 21 1 []) rfl
  obtain ⟨d1a, r1a, b1a⟩ := FunD.binds1 (ps := ["self", "low", "high", "width"]) F30 4 1 (List.cons_ne_nil V.non []) rfl fun _ _ _ _ _ _ _ us its hu hi => match us, its, hu, hi with | [_, _, _, _], [_], _, _ => ⟨_, rfl, rfl⟩
  obtain ⟨d1b, r1b, b1b⟩ := FunD.binds1 (ps := ["self", "low", "high", "width"]) F30 3 0 (List.cons_ne_nil V.non []) rfl fun _ _ _ _ _ _ _ us its hu hi => match us, its, hu, hi with | [_, _, _], [_], _, _ => ⟨_, rfl, rfl⟩
  obtain ⟨d4a, r4a, b4a⟩ := FunD.binds1 (ps := ["self", "item", "width"]) F36 3 1 (List.cons_ne_nil V.non []) rfl fun _ _ _ _ _ _ _ us its hu hi => match us, its, hu, hi with | [_, _, _], [_], _, _ => ⟨_, rfl, rfl⟩
  obtain ⟨d4b, r4b, b4b⟩ := FunD.binds1 (ps := ["self", "item", "width"]) F36 2 0 (List.cons_ne_nil V.non []) rfl fun _ _ _ _ _ _ _ us its hu hi => match us, its, hu, hi with | [_, _], [_], _, _ => ⟨_, rfl, rfl⟩
  cases vals_nil r1a
  cases vals_non r1b
  cases vals_nil r4a
  cases vals_non r4b
  refine ⟨{ C := fun i => He.ga K (kn i), I := fun i => ⟨He.ma K (He.ga K (kn i)) "__init__", ([fd0, fd30, fd32, fd34, fd36, fd38, fd40, fd42, fd44, fd46, fd48] : List FuncData).getD i fd0⟩, E := fun i => ⟨He.ma K (He.ga K (kn i)) "__eq__", ([fd29, fd31, fd33, fd35, fd37, fd39, fd41, fd43, fd45, fd47, fd49] : List FuncData).getD i fd0⟩, bad := He.ga K "BadKind", badI := ⟨He.ma K (He.ga K "BadKind") "__init__", fd28⟩, is_int := ⟨He.ga K "is_int", fd0⟩, is_int_within := ⟨He.ga K "is_int_within", fd1⟩, is_name := ⟨He.ga K "is_name", fd2⟩, is_bits := ⟨He.ga K "is_bits", fd3⟩, is_word := ⟨He.ga K "is_word", fd4⟩, is_simple := ⟨He.ga K "is_simple", fd5⟩, check_word_and_name := ⟨He.ga K "check_word_and_name", fd6⟩, are_ways := ⟨He.ga K "are_ways", fd7⟩, are_parts := ⟨He.ga K "are_parts", fd8⟩, have_unlike_names := ⟨He.ga K "have_unlike_names", fd9⟩, are_apart := ⟨He.ga K "are_apart", fd10⟩, _law_is_int := ⟨He.ga K "_law_is_int", fd11⟩, _law_same_dict := ⟨He.ga K "_law_same_dict", fd12⟩, _law_same := ⟨He.ga K "_law_same", fd13⟩, _law_start := ⟨He.ga K "_law_start", fd14⟩, _law_pull := ⟨He.ga K "_law_pull", fd15⟩, _law_odd := ⟨He.ga K "_law_odd", fd16⟩, _law_word := ⟨He.ga K "_law_word", fd17⟩, _law_is_name := ⟨He.ga K "_law_is_name", fd18⟩, _law_object := ⟨He.ga K "_law_object", fd19⟩, _law_bits_or_not := ⟨He.ga K "_law_bits_or_not", fd20⟩, _law_is_word := ⟨He.ga K "_law_is_word", fd21⟩, _law_object_of := ⟨He.ga K "_law_object_of", fd22⟩, _law_make := ⟨He.ga K "_law_make", fd23⟩, _law_told := ⟨He.ga K "_law_told", fd24⟩, _law_due := ⟨He.ga K "_law_due", fd25⟩, _law_thing := ⟨He.ga K "_law_thing", fd26⟩, law := ⟨He.ga K "law", fd27⟩ }, rfl, ?_⟩
  exact { kc := kc_ok X G c2 _ (fun _ _ => rfl), bad := bad_ok X G c2 rfl F28 (FunD.bindsN F28 fun _ _ _ _ _ _ us hl => match us, hl with | [_, _], _ => rfl), ini0 := ini0_ok c2, isinstance := He.free_ok X G (c.fact 28 (f := .free "isinstance") rfl), int := He.free_ok X G (c.fact 29 (f := .free "int") rfl), bool := He.free_ok X G (c.fact 30 (f := .free "bool") rfl), str := He.free_ok X G (c.fact 31 (f := .free "str") rfl), dict := He.free_ok X G (c.fact 32 (f := .free "dict") rfl), list := He.free_ok X G (c.fact 33 (f := .free "list") rfl), tuple := He.free_ok X G (c.fact 34 (f := .free "tuple") rfl), len := He.free_ok X G (c.fact 35 (f := .free "len") rfl), range := He.free_ok X G (c.fact 36 (f := .free "range") rfl), all := He.free_ok X G (c.fact 37 (f := .free "all") rfl), any := He.free_ok X G (c.fact 38 (f := .free "any") rfl), enumerate := He.free_ok X G (c.fact 39 (f := .free "enumerate") rfl), is_int := ⟨F0, He.glo_ok X G (c.fact 0 (f := .glo "is_int") rfl), FunD.bindsN F0 fun _ _ _ _ _ _ us hl => match us, hl with | [_], _ => rfl⟩, is_int_within := ⟨F1, He.glo_ok X G (c.fact 1 (f := .glo "is_int_within") rfl), FunD.bindsN F1 fun _ _ _ _ _ _ us hl => match us, hl with | [_, _, _], _ => rfl⟩, is_name := ⟨F2, He.glo_ok X G (c.fact 2 (f := .glo "is_name") rfl), FunD.bindsN F2 fun _ _ _ _ _ _ us hl => match us, hl with | [_], _ => rfl⟩, is_bits := ⟨F3, He.glo_ok X G (c.fact 3 (f := .glo "is_bits") rfl), FunD.bindsN F3 fun _ _ _ _ _ _ us hl => match us, hl with | [_], _ => rfl⟩, is_word := ⟨F4, He.glo_ok X G (c.fact 4 (f := .glo "is_word") rfl), FunD.bindsN F4 fun _ _ _ _ _ _ us hl => match us, hl with | [_], _ => rfl⟩, is_simple := ⟨F5, He.glo_ok X G (c.fact 5 (f := .glo "is_simple") rfl), FunD.bindsN F5 fun _ _ _ _ _ _ us hl => match us, hl with | [_], _ => rfl⟩, check_word_and_name := ⟨F6, He.glo_ok X G (c.fact 6 (f := .glo "check_word_and_name") rfl), FunD.bindsN F6 fun _ _ _ _ _ _ us hl => match us, hl with | [_, _], _ => rfl⟩, are_ways := ⟨F7, He.glo_ok X G (c.fact 7 (f := .glo "are_ways") rfl), FunD.bindsN F7 fun _ _ _ _ _ _ us hl => match us, hl with | [_], _ => rfl⟩, are_parts := ⟨F8, He.glo_ok X G (c.fact 8 (f := .glo "are_parts") rfl), FunD.bindsN F8 fun _ _ _ _ _ _ us hl => match us, hl with | [_], _ => rfl⟩, have_unlike_names := ⟨F9, He.glo_ok X G (c.fact 9 (f := .glo "have_unlike_names") rfl), FunD.bindsN F9 fun _ _ _ _ _ _ us hl => match us, hl with | [_], _ => rfl⟩, are_apart := ⟨F10, He.glo_ok X G (c.fact 10 (f := .glo "are_apart") rfl), FunD.bindsN F10 fun _ _ _ _ _ _ us hl => match us, hl with | [_], _ => rfl⟩, _law_is_int := ⟨F11, He.glo_ok X G (c.fact 11 (f := .glo "_law_is_int") rfl), FunD.bindsN F11 fun _ _ _ _ _ _ us hl => match us, hl with | [_], _ => rfl⟩, _law_same_dict := ⟨F12, He.glo_ok X G (c.fact 12 (f := .glo "_law_same_dict") rfl), FunD.bindsN F12 fun _ _ _ _ _ _ us hl => match us, hl with | [_, _], _ => rfl⟩, _law_same := ⟨F13, He.glo_ok X G (c.fact 13 (f := .glo "_law_same") rfl), FunD.bindsN F13 fun _ _ _ _ _ _ us hl => match us, hl with | [_, _], _ => rfl⟩, _law_start := ⟨F14, He.glo_ok X G (c.fact 14 (f := .glo "_law_start") rfl), FunD.bindsN F14 fun _ _ _ _ _ _ us hl => match us, hl with | [_], _ => rfl⟩, _law_pull := ⟨F15, He.glo_ok X G (c.fact 15 (f := .glo "_law_pull") rfl), FunD.bindsN F15 fun _ _ _ _ _ _ us hl => match us, hl with | [_, _], _ => rfl⟩, _law_odd := ⟨F16, He.glo_ok X G (c.fact 16 (f := .glo "_law_odd") rfl), FunD.bindsN F16 fun _ _ _ _ _ _ us hl => match us, hl with | [_], _ => rfl⟩, _law_word := ⟨F17, He.glo_ok X G (c.fact 17 (f := .glo "_law_word") rfl), FunD.bindsN F17 fun _ _ _ _ _ _ us hl => match us, hl with | [_], _ => rfl⟩, _law_is_name := ⟨F18, He.glo_ok X G (c.fact 18 (f := .glo "_law_is_name") rfl), FunD.bindsN F18 fun _ _ _ _ _ _ us hl => match us, hl with | [_], _ => rfl⟩, _law_object := ⟨F19, He.glo_ok X G (c.fact 19 (f := .glo "_law_object") rfl), FunD.bindsN F19 fun _ _ _ _ _ _ us hl => match us, hl with | [_], _ => rfl⟩, _law_bits_or_not := ⟨F20, He.glo_ok X G (c.fact 20 (f := .glo "_law_bits_or_not") rfl), FunD.bindsN F20 fun _ _ _ _ _ _ us hl => match us, hl with | [_], _ => rfl⟩, _law_is_word := ⟨F21, He.glo_ok X G (c.fact 21 (f := .glo "_law_is_word") rfl), FunD.bindsN F21 fun _ _ _ _ _ _ us hl => match us, hl with | [_], _ => rfl⟩, _law_object_of := ⟨F22, He.glo_ok X G (c.fact 22 (f := .glo "_law_object_of") rfl), FunD.bindsN F22 fun _ _ _ _ _ _ us hl => match us, hl with | [_, _], _ => rfl⟩, _law_make := ⟨F23, He.glo_ok X G (c.fact 23 (f := .glo "_law_make") rfl), FunD.bindsN F23 fun _ _ _ _ _ _ us hl => match us, hl with | [_, _, _, _], _ => rfl⟩, _law_told := ⟨F24, He.glo_ok X G (c.fact 24 (f := .glo "_law_told") rfl), FunD.bindsN F24 fun _ _ _ _ _ _ us hl => match us, hl with | [_, _, _, _, _], _ => rfl⟩, _law_due := ⟨F25, He.glo_ok X G (c.fact 25 (f := .glo "_law_due") rfl), FunD.bindsN F25 fun _ _ _ _ _ _ us hl => match us, hl with | [_, _, _, _], _ => rfl⟩, _law_thing := ⟨F26, He.glo_ok X G (c.fact 26 (f := .glo "_law_thing") rfl), FunD.bindsN F26 fun _ _ _ _ _ _ us hl => match us, hl with | [_], _ => rfl⟩, law := ⟨F27, He.glo_ok X G (c.fact 27 (f := .glo "law") rfl), FunD.bindsN F27 fun _ _ _ _ _ _ us hl => match us, hl with | [_], _ => rfl⟩, E0 := F29, Eb0 := FunD.bindsN F29 fun _ _ _ _ _ _ us hl => match us, hl with | [_, _], _ => rfl, E1 := F31, Eb1 := FunD.bindsN F31 fun _ _ _ _ _ _ us hl => match us, hl with | [_, _], _ => rfl, I1 := F30, mk1 := mk_ok c2 1 (by decide) (by decide), Ib1 := b1a, Id1 := b1b, E2 := F33, Eb2 := FunD.bindsN F33 fun _ _ _ _ _ _ us hl => match us, hl with | [_, _], _ => rfl, I2 := F32, mk2 := mk_ok c2 2 (by decide) (by decide), Ib2 := FunD.bindsN F32 fun _ _ _ _ _ _ us hl => match us, hl with | [_, _], _ => rfl, E3 := F35, Eb3 := FunD.bindsN F35 fun _ _ _ _ _ _ us hl => match us, hl with | [_, _], _ => rfl, I3 := F34, mk3 := mk_ok c2 3 (by decide) (by decide), Ib3 := FunD.bindsN F34 fun _ _ _ _ _ _ us hl => match us, hl with | [_, _], _ => rfl, E4 := F37, Eb4 := FunD.bindsN F37 fun _ _ _ _ _ _ us hl => match us, hl with | [_, _], _ => rfl, I4 := F36, mk4 := mk_ok c2 4 (by decide) (by decide), Ib4 := b4a, Id4 := b4b, E5 := F39, Eb5 := FunD.bindsN F39 fun _ _ _ _ _ _ us hl => match us, hl with | [_, _], _ => rfl, I5 := F38, mk5 := mk_ok c2 5 (by decide) (by decide), Ib5 := FunD.bindsN F38 fun _ _ _ _ _ _ us hl => match us, hl with | [_, _, _, _], _ => rfl, E6 := F41, Eb6 := FunD.bindsN F41 fun _ _ _ _ _ _ us hl => match us, hl with | [_, _], _ => rfl, I6 := F40, mk6 := mk_ok c2 6 (by decide) (by decide), Ib6 := FunD.bindsN F40 fun _ _ _ _ _ _ us hl => match us, hl with | [_, _, _, _], _ => rfl, E7 := F43, Eb7 := FunD.bindsN F43 fun _ _ _ _ _ _ us hl => match us, hl with | [_, _], _ => rfl, I7 := F42, mk7 := mk_ok c2 7 (by decide) (by decide), Ib7 := FunD.bindsN F42 fun _ _ _ _ _ _ us hl => match us, hl with | [_, _, _], _ => rfl, E8 := F45, Eb8 := FunD.bindsN F45 fun _ _ _ _ _ _ us hl => match us, hl with | [_, _], _ => rfl, I8 := F44, mk8 := mk_ok c2 8 (by decide) (by decide), Ib8 := FunD.bindsN F44 fun _ _ _ _ _ _ us hl => match us, hl with | [_, _, _, _], _ => rfl, E9 := F47, Eb9 := FunD.bindsN F47 fun _ _ _ _ _ _ us hl => match us, hl with | [_, _], _ => rfl, I9 := F46, mk9 := mk_ok c2 9 (by decide) (by decide), Ib9 := FunD.bindsN F46 fun _ _ _ _ _ _ us hl => match us, hl with | [_, _], _ => rfl, E10 := F49, Eb10 := FunD.bindsN F49 fun _ _ _ _ _ _ us hl => match us, hl with | [_, _], _ => rfl, I10 := F48, mk10 := mk_ok c2 10 (by decide) (by decide), Ib10 := FunD.bindsN F48 fun _ _ _ _ _ _ us hl => match us, hl with | [_, _], _ => rfl }
end
end Me
set_option maxHeartbeats 0
open PySem PySem.W PySem.Calls PyProof.Rows
theorem PySem.Challenge.cw_roomleft_k03_ways_doors_parts_and_rooms_holds : PySem.Challenge.rw_roomleft_k03_ways_doors_parts_and_rooms.Holds := by
  w_on; o_law
  refine HandSHeadRun.head_any (r := OpenLaw.row PySem.Challenge.rw_roomleft_k03_ways_doors_parts_and_rooms) (q := view (OpenLaw.row PySem.Challenge.rw_roomleft_k03_ways_doors_parts_and_rooms).prog [44]) (H := Me.hk) (ob := Me.ob) (M := 4700) (loose := Me.loose)
    (d := HandSHeadRun.topDef (OpenLaw.row PySem.Challenge.rw_roomleft_k03_ways_doors_parts_and_rooms).prog 44) (kwd := []) Me.ob_eq
    (by kernel_rfl) (fun s => by kernel_rfl) Me.run (by kernel_rfl) (by kernel_rfl) (by kernel_rfl) (by rfl) (by first | assumption | decide +kernel) (by decide +kernel) ⟨rfl, rfl, rfl, rfl, rfl, by decide +kernel⟩ ?hw ?hc
  case hw => w_witness2
  case hc =>
    refine L2.walk_ofE (l := PySem.Challenge.rw_roomleft_k03_ways_doors_parts_and_rooms) (n := 63) (k := 9) (x := "_law_script") (CX := L2.CX0) rfl (by decide) (by kernel_rfl) ⟨rfl, by decide, by decide⟩ ?F (fun _ _ _ _ z => z)
    intro w mg f h Y G hmg0
    obtain ⟨K, KX, c⟩ := Y
    have hmg : mg ("law" : PySem.Str) = some (.ref f) := by
      have e : (HandSHeadRun.topDef (OpenLaw.row PySem.Challenge.rw_roomleft_k03_ways_doors_parts_and_rooms).prog 44).name = ("law" : PySem.Str) := by kernel_rfl
      rw [← e]
      exact hmg0
    obtain ⟨a, ea, T⟩ := Me.mk_txt KX G c
    have ef := hmg.symm.trans T.law.mg
    cases ef
    refine ⟨K, a.law.fd, Me.spLaw K, KX, fun s v => ?_, fun H b ns hl _ hS => ⟨b, ns, rfl, hS, hl, fun _ => rfl⟩, fun base _ _ => Me.ok_law T⟩
    have bd := T.law.b
    exact L2.FunD.bindsA (ps := ["_law_script"]) T.law.fn (fun _ _ _ _ _ _ us hl => match us, hl with | [_], _ => rfl) s [v] rfl
