import PyProof.Rows.All
import Wide.All
import OpenK.AllK
import Wide.FinOn
import KE.KStateDown
import HandS.Base
import HandS.Call
import HandS.Ends
import HandS.More
import HandS.Words
import HandS.Exc
import HandS.Defaults
import HandS.HeadHook1
import HandS.HeadHook2
import HandS.Head0
import HandS.Head1
import HandS.Head2
import HandS.ForMost
import HandS.ForExc
import HandS.ExcInit
import HandS.ExcField
import HandS.IsInst
import HandS.Wide
import HandS.OwnEq
import PyProof.InstNe
import KE.KTypeName
import PyProof.IsiInt
import PyProof.IsiStr
import PyProof.IsiNone
import PyProof.IsiH_tuple
import HandS.MakeKwOnly
import HandS.Codes
import HandS.Text
import HandS.Conv
import HandS.HeadEnd
import PySem.Challenge.RW_roomleft_k65_verdict_objects
set_option Elab.async false
set_option linter.all false
set_option maxRecDepth 100000
set_option maxHeartbeats 8000000
namespace Me
open PySem PySem.Spec PyProof.Rows L2
/-! ### the text -/
def top (i : Nat) : Stmt := PySem.Challenge.pw_roomleft_k65_verdict_objects.main.body.getD i (.Pass ⟨0, 0, 0, 0⟩)
/-- the classes of kinds: name, fields, has its own __init__ -/
def kcs : List (Str × List Str × Bool) := [("Verdict", ["refused", "short", "in_step", "stepped", "other"], true)]
def allK : List Str := ["refused", "short", "in_step", "stepped", "other"]
def tys : List String := ["NoneType", "bool", "int", "str", "tuple", "list", "dict"]
/-! ### what is asked of the written part -/
def eqB (a b : Option Bool) : Bool := decide (a = b)
def kcL (K : PySem.W.Frag) (x : Str) (ini : Bool) : List Bool :=
  [He.eqO (PySem.W.nsIn K mainGlobals x) (some (some (.ref (He.ga K x)))), PySem.W.plainGet K (He.ga K x) Str.empty, PySem.W.hasDictIn K (He.ga K x), PySem.W.plainOver K (He.ga K x), He.eqO (PySem.W.findIn K (.ref (He.ga K x)) "__setattr__") (some (some (.builtin "object.__setattr__"))),
   PySem.W.makesIn K (He.ga K x), PySem.W.keepIn K (.ref (He.ga K x)), He.eqO (PySem.W.findIn K (.ref (He.ga K x)) "__class__") (some (some (.builtin "object.__class__"))), eqB (PySem.W.mroIn K (He.ga K x) (.type "object")) (some true),
   allK.all (fun f => He.eqO (PySem.W.findIn K (.ref (He.ga K x)) f) (some none)), He.eqO (PySem.W.findIn K (.ref (He.ga K x)) "__eq__") (some (some (.ref (He.ma K (He.ga K x) "__eq__")))), PySem.W.isFn K (.ref (He.ma K (He.ga K x) "__eq__")), PySem.W.keepIn K (.ref (He.ma K (He.ga K x) "__eq__")),
   kcs.all (fun y => eqB (PySem.W.kitOne K (.ref (He.ga K x)) (.ref (He.ga K y.1))) (some (decide (x = y.1)))), tys.all (fun t => eqB (PySem.W.kitOne K (.ref (He.ga K x)) (.type t)) (some false)), tys.all (fun t => eqB (PySem.W.kitOne K (.type t) (.ref (He.ga K x))) (some false)),
   if ini then He.eqO (PySem.W.findIn K (.ref (He.ga K x)) "__init__") (some (some (.ref (He.ma K (He.ga K x) "__init__")))) && (PySem.W.isFn K (.ref (He.ma K (He.ga K x) "__init__")) && PySem.W.keepIn K (.ref (He.ma K (He.ga K x) "__init__"))) else He.eqO (PySem.W.findIn K (.ref (He.ga K x)) "__init__") (some (some (.builtin "object.__init__")))]
def exL (K : PySem.W.Frag) : List Bool :=
  [kcs.all (fun y => (kcL K y.1 y.2.2).all id), He.eqO (PySem.W.specialIn K (.builtin "object.__class__") "__get__") (some (some (.builtin "getset_descriptor.__get__"))), eqB (PySem.W.takesIn K (.builtin "object.__class__")) (some true),
   kcs.all (fun y => He.eqO (PySem.W.findIn K (.ref (He.ga K y.1)) "__ne__") (some (some (.builtin "object.__ne__"))))]
def exB (K : PySem.W.Frag) : Bool := (exL K).all id
def dG (x : Str) (i : Nat) : He.DefD := ⟨(x, none), x, x, defArgs (top i), defBody (top i), defScope (top i), [], []⟩
def dM (c m : Str) (i j : Nat) (d : List He.Dv) : He.DefD := ⟨(c, some m), m, c ++ "." ++ m, defArgs (inClass (top i) j), defBody (inClass (top i) j), defScope (inClass (top i) j), d, []⟩
def fn1 : List He.DefD := [dG "are_same" 1, dG "_law_start" 5, dG "_law_pull" 6, dG "_law_big" 7, dG "_law_word" 8, dG "_law_bits" 9, dG "_law_thing" 10, dG "_law_fields" 11, dG "law" 12]
def fn2 : List He.DefD := [dM "Verdict" "__init__" 3 0 [], dM "Verdict" "__eq__" 3 1 []]
def fn : List He.DefD := fn1 ++ fn2
def gls : List Str := ["are_same", "_law_start", "_law_pull", "_law_big", "_law_word", "_law_bits", "_law_thing", "_law_fields", "law"]
def frees : List Str := ["isinstance", "int", "list", "len", "range"]
def fa : List He.Fa := gls.map .glo ++ frees.map .free
/-! ### the Hook -/
abbrev AlK : Type := He.AlD × Bool
def obsK (K : PySem.W.Frag) : AlK := (He.obsD fa fn K, exB K)
def valK : AlK := (He.valD fn, true)
def obK (g : Addr → Option Obj) : AlK := obsK (He.frG g (He.asD g 4))
def hk : PySem.W.Hook where
  α := AlK
  obs := fun s => obK s.heap.get?
  val := fun _ => valK
  says := fun _ h => ∃ K : PySem.W.Frag, K.In h ∧ obsK K = valK
  of := fun _ _ e => ⟨_, He.frG_in, e⟩
  keeps := fun _ _ _ ⟨K, hK, c⟩ k => ⟨K, PySem.W.Frag.In.keeps hK k, c⟩
theorem obK_eq {g : Addr → Option Obj} {s : Shared} (h : ∀ a, g a = s.heap.get? a) : obK g = hk.obs s := by
  have e : g = s.heap.get? := funext h
  rw [e] <;> rfl
end Me
set_option maxHeartbeats 0
namespace Me
open PySem PySem.Spec PyProof.Rows L2
abbrev R : PySem.W.OpenRow := PySem.W.OpenLaw.row PySem.Challenge.rw_roomleft_k65_verdict_objects
def ob (s : PySem.W.SharedT) : AlK := obK (HandSHeadRun.getT s)
theorem ob_eq (s : PySem.W.SharedT) : ob s = hk.obs s.abs := obK_eq (HandSHeadRun.getT_eq s)
def loose1 : List PySem.Str := ["Verdict", "are_same", "_law_start", "_law_pull", "_law_big", "_law_word", "_law_bits", "_law_thing", "_law_fields"]
def loose : List PySem.Str := loose1
theorem run (w : World) : HandSHeadRun.RunEq R (PySem.W.view R.prog [12]) hk ob 2000 loose w := by
  intro os
  kernel_rfl
end Me
set_option maxHeartbeats 8000000
namespace Me
open PySem L2
/-! ### the readings, one step each, what follows last -/
section
variable {σ : L2.St} {H : Hp} {Q : VK} {QB : Bool → Hp → Prop} {QA : List V → Hp → Prop} {D : Ends} {K : PySem.W.Frag}
theorem i_var {i : Nat} {v : V} (e : σ[i]? = some (some v)) (q : Q v H) : tVar i σ H Q := ⟨v, e, q⟩
theorem i_c {v : V} (q : Q v H) : tC v σ H Q := q
theorem i_op {r : R2} {ta tb : TE} (q : ta σ H fun x H1 => tb σ H1 fun y H2 => r x y H2 Q) : tOp r ta tb σ H Q := q
theorem i_un {r : V → Hp → VK → Prop} {ta : TE} (q : ta σ H fun x H1 => r x H1 Q) : tUn r ta σ H Q := q
theorem i_nil (q : QA [] H) : tNil σ H QA := q
theorem i_cons {ta : TE} {tr : TA} (q : ta σ H fun x H1 => tr σ H1 fun xs H2 => QA (x :: xs) H2) : tCons ta tr σ H QA := q
theorem i_cb {r : List V → Hp → VK → Prop} {t : TA} (q : t σ H fun vs H1 => r vs H1 Q) : tCB r t σ H Q := q
theorem i_call {sp : Sp} {dvs : List V} {E : XK} {t : TA} (q : t σ H fun vs H1 => sp (vs ++ dvs) H1 Q E) : tCall sp dvs E t σ H Q := q
theorem i_seq {t u : TS} (q : t { D with nx := u D } σ H) : tSeq t u D σ H := q
theorem i_next (q : D.nx σ H) : tNext D σ H := q
theorem i_asg {te : TE} {g : TG} (q : te σ H fun x H1 => g x σ H1 D.nx) : tAsg te g D σ H := q
theorem i_gname {i : Nat} {v : V} {R : L2.St → Hp → Prop} (q : R (σ.set i (some v)) H) : gName i v σ H R := q
theorem i_gsub {to ti : TE} {t : TSet} {v : V} {R : L2.St → Hp → Prop} (q : to σ H fun o H1 => ti σ H1 fun i H2 => t o i v H2 fun H3 => R σ H3) : gSub to ti t v σ H R := q
theorem i_ret {te : TE} (q : te σ H D.rt) : tRet te D σ H := q
theorem i_retN (q : D.rt .non H) : tRetN D σ H := q
theorem i_drop {te : TE} (q : te σ H fun _ H1 => D.nx σ H1) : tDrop te D σ H := q
theorem i_ifS {c : TT} {t u : TS} (q : c σ H fun b H1 => if b = true then t D σ H1 else u D σ H1) : tIfS c t u D σ H := q
theorem i_if {c : TT} {ta tb : TE} (q : c σ H fun b H1 => if b = true then ta σ H1 Q else tb σ H1 Q) : tIf c ta tb σ H Q := q
theorem i_and {t u : TT} (q : t σ H fun c H1 => if c = true then u σ H1 QB else QB false H1) : tAnd t u σ H QB := q
theorem i_or {t u : TT} (q : t σ H fun c H1 => if c = true then QB true H1 else u σ H1 QB) : tOr t u σ H QB := q
theorem i_not {t : TT} (q : t σ H fun c H1 => QB (!c) H1) : tNot t σ H QB := q
theorem i_andV {ta tb : TE} (q : ta σ H fun x H1 => ∃ c, x = .bl c ∧ if c = true then tb σ H1 Q else Q (.bl false) H1) : tAndV ta tb σ H Q := q
theorem i_orV {ta tb : TE} (q : ta σ H fun x H1 => ∃ c, x = .bl c ∧ if c = true then Q (.bl true) H1 else tb σ H1 Q) : tOrV ta tb σ H Q := q
theorem i_notV {ta : TE} (q : ta σ H fun x H1 => ∃ c, x = .bl c ∧ Q (.bl (!c)) H1) : tNotV ta σ H Q := q
theorem i_test {t : TE} (q : t σ H fun x H' => ∃ k, x = .bl k ∧ QB k H') : tTest t σ H QB := q
theorem i_tB {t : TE} (q : t σ H fun x H' => ∃ k, x = .bl k ∧ QB k H') : tB t σ H QB := q
theorem i_bl {b : Bool} {R : Bool → Prop} (q : R b) : ∃ k, V.bl b = .bl k ∧ R k := ⟨b, rfl, q⟩
theorem i_rI0 {g : Int → Int → V} {i j : Int} (q : Q (g i j) H) : rI0 g (.int i) (.int j) H Q := ⟨i, j, rfl, rfl, q⟩
theorem i_rI {C : Int → Int → Prop} {g : Int → Int → V} {i j : Int} (c : C i j) (q : Q (g i j) H) : rI C g (.int i) (.int j) H Q := ⟨i, j, rfl, rfl, c, q⟩
theorem i_rU {g : Int → V} {i : Int} (q : Q (g i) H) : rU g (.int i) H Q := ⟨i, rfl, q⟩
theorem i_rEq {x y : V} (s : scal x y = true) (q : Q (.bl (decide (x = y))) H) : rEq x y H Q := ⟨s, q⟩
theorem i_rNe {x y : V} (s : scal x y = true) (q : Q (.bl (!decide (x = y))) H) : rNe x y H Q := ⟨s, q⟩
theorem i_ixl {p : Addr} {xs : List V} {i : Int} {v : V} (h : H p = some (.lst xs)) (e : atI xs i = some v) (q : Q v H) : rIxL K (.ref p) (.int i) H Q := ⟨p, xs, i, v, rfl, rfl, SqL.of h, e, q⟩
theorem i_ixt {p : Addr} {xs : List V} {i : Int} {v : V} (h : H p = some (.tup xs)) (e : atI xs i = some v) (q : Q v H) : rIxT K (.ref p) (.int i) H Q := ⟨p, xs, i, v, rfl, rfl, SqT.of h, e, q⟩
theorem i_setl {p : Addr} {xs : List V} {k : Int} {j : Nat} {v : V} {R : Hp → Prop} (h : H p = some (.lst xs)) (e : ixN xs.length k = some j) (q : R (upd H p (.lst (xs.set j v)))) : rSetL (.ref p) (.int k) v H R := ⟨p, xs, k, j, rfl, rfl, h, e, q⟩
theorem i_lst {t : TA} (q : t σ H fun xs H1 => xs.length ≤ sizeLine ∧ ∀ p, H1 p = none → Q (.ref p) (upd H1 p (.lst xs))) : tLst t σ H Q := q
theorem i_tup {t : TA} (q : t σ H fun xs H1 => xs.length ≤ sizeLine ∧ ∀ p, H1 p = none → Q (.ref p) (upd H1 p (.tup xs))) : tTup t σ H Q := q
theorem i_dnew (q : ∀ p, H p = none → Q (.ref p) (upd H p (.dK []))) : tDNewK σ H Q := q
theorem i_len {p : Addr} {xs : List V} {R : V → Hp → Prop} {vs : List V} (ev : vs = [.ref p]) (h : H p = some (.lst xs)) (q : R (.int xs.length) H) : ∃ (p : Addr) (ys : List V), vs = [V.ref p] ∧ (SqL K H p ys ∨ SqT K H p ys) ∧ R (.int ys.length) H := ⟨p, xs, ev, .inl (SqL.of h), q⟩
theorem i_lenT {p : Addr} {xs : List V} {R : V → Hp → Prop} {vs : List V} (ev : vs = [.ref p]) (h : H p = some (.tup xs)) (q : R (.int xs.length) H) : ∃ (p : Addr) (ys : List V), vs = [V.ref p] ∧ (SqL K H p ys ∨ SqT K H p ys) ∧ R (.int ys.length) H := ⟨p, xs, ev, .inr (SqT.of h), q⟩
end
/-! ### tests -/
theorem i_itd {p : Prop} [Decidable p] {A B : Prop} (ht : p → A) (hf : ¬ p → B) : if decide p = true then A else B := by
  by_cases h : p
  · rw [if_pos (decide_eq_true h)]; exact ht h
  · rw [decide_eq_false h, if_neg Bool.false_ne_true]; exact hf h
theorem i_itn {p : Prop} [Decidable p] {A B : Prop} (ht : ¬ p → A) (hf : p → B) : if (!decide p) = true then A else B := by
  by_cases h : p
  · rw [decide_eq_true h]; exact hf h
  · rw [decide_eq_false h]; exact ht h
theorem i_itb {c : Bool} {A B : Prop} (ht : c = true → A) (hf : c = false → B) : if c = true then A else B := by
  cases c
  · exact hf rfl
  · exact ht rfl
theorem i_itei {a b : Int} {A B : Prop} (ht : a = b → A) (hf : a ≠ b → B) : if decide (V.int a = V.int b) = true then A else B :=
  i_itd (fun h => ht (V.int.inj h)) fun h => hf fun e => h (by rw [e])
theorem i_iten {a b : Int} {A B : Prop} (ht : a ≠ b → A) (hf : a = b → B) : if (!decide (V.int a = V.int b)) = true then A else B :=
  i_itn (fun h => ht fun e => h (by rw [e])) fun h => hf (V.int.inj h)
theorem i_ites {a b : Str} {A B : Prop} (ht : a = b → A) (hf : a ≠ b → B) : if decide (V.str a = V.str b) = true then A else B :=
  i_itd (fun h => ht (V.str.inj h)) fun h => hf fun e => h (by rw [e])
theorem i_itesn {a b : Str} {A B : Prop} (ht : a ≠ b → A) (hf : a = b → B) : if (!decide (V.str a = V.str b)) = true then A else B :=
  i_itn (fun h => ht fun e => h (by rw [e])) fun h => hf (V.str.inj h)
/-! ### the heap -/
theorem upd_get {H : Hp} {a b : Addr} {o : HO} {u : Option HO} (n : b ≠ a) (h : H b = u) : upd H a o b = u := by rw [upd_ne n]; exact h
theorem upd_none {H : Hp} {a b : Addr} {o : HO} (h : upd H a o b = none) : b ≠ a ∧ H b = none := by
  by_cases e : b = a
  · subst e; rw [upd_same] at h; cases h
  · rw [upd_ne e] at h; exact ⟨e, h⟩
theorem ne_lt {H : Hp} {a b : Addr} {xs ys : List V} (h : H a = some (.lst xs)) (h' : H b = some (.tup ys)) : a ≠ b := ne_of h h' (by intro z; cases z)
theorem ne_ll {H : Hp} {a b : Addr} {xs ys : List V} (h : H a = some (.lst xs)) (h' : H b = some (.lst ys)) (n : xs ≠ ys) : a ≠ b := ne_of h h' (by intro z; cases z; exact n rfl)
/-! ### the script's reader -/
/-- at p: a list of the items' list (at L), a place, a number that is used up, a number that is stirred -/
def StAt (H : Hp) (p L : Addr) : Prop := ∃ (ns : List Int) (i b c : Int), H p = some (.lst [.ref L, .int i, .int b, .int c]) ∧ H L = some (.lst (ns.map V.int)) ∧ ns.length ≤ 63 ∧ 0 ≤ i ∧ 0 ≤ b ∧ 0 ≤ c ∧ c < 2147483647
def StOk (H : Hp) (p : Addr) : Prop := ∃ L, StAt H p L
/-- the reader has gone on, nothing else has changed -/
def Went (p : Addr) (H H' : Hp) : Prop := StOk H' p ∧ (∀ a o, a ≠ p → H a = some o → H' a = some o) ∧ ∀ L, StAt H p L → StAt H' p L
theorem Went.get {p : Addr} {H H' : Hp} {a : Addr} {o : HO} (w : Went p H H') (n : a ≠ p) (h : H a = some o) : H' a = some o := w.2.1 a o n h
theorem Went.trans {p : Addr} {H H1 H2 : Hp} (a : Went p H H1) (b : Went p H1 H2) : Went p H H2 := ⟨b.1, fun x o n h => b.2.1 x o n (a.2.1 x o n h), fun L h => b.2.2 L (a.2.2 L h)⟩
theorem StAt.uniq {H : Hp} {p L L' : Addr} (h : StAt H p L) (h' : StAt H p L') : L = L' := by
  obtain ⟨_, _, _, _, e, _⟩ := h
  obtain ⟨_, _, _, _, e', _⟩ := h'
  rw [e] at e'
  injection e' with e'
  injection e' with e'
  injection e' with e' _
  exact V.ref.inj e'
theorem went_mk {H H' : Hp} {p L : Addr} (h : StAt H p L) (h' : StAt H' p L) (f : ∀ a o, a ≠ p → H a = some o → H' a = some o) : Went p H H' := ⟨⟨L, h'⟩, f, fun L' q => by rw [← h.uniq q]; exact h'⟩
theorem kb_NoneType_int : kitB "NoneType" "int" = some false := by decide +kernel
theorem kb_NoneType_bool : kitB "NoneType" "bool" = some false := by decide +kernel
theorem kb_NoneType_str : kitB "NoneType" "str" = some false := by decide +kernel
theorem kb_NoneType_dict : kitB "NoneType" "dict" = some false := by decide +kernel
theorem kb_NoneType_list : kitB "NoneType" "list" = some false := by decide +kernel
theorem kb_NoneType_tuple : kitB "NoneType" "tuple" = some false := by decide +kernel
theorem kb_bool_int : kitB "bool" "int" = some true := by decide +kernel
theorem kb_bool_bool : kitB "bool" "bool" = some true := by decide +kernel
theorem kb_bool_str : kitB "bool" "str" = some false := by decide +kernel
theorem kb_bool_dict : kitB "bool" "dict" = some false := by decide +kernel
theorem kb_bool_list : kitB "bool" "list" = some false := by decide +kernel
theorem kb_bool_tuple : kitB "bool" "tuple" = some false := by decide +kernel
theorem kb_int_int : kitB "int" "int" = some true := by decide +kernel
theorem kb_int_bool : kitB "int" "bool" = some false := by decide +kernel
theorem kb_int_str : kitB "int" "str" = some false := by decide +kernel
theorem kb_int_dict : kitB "int" "dict" = some false := by decide +kernel
theorem kb_int_list : kitB "int" "list" = some false := by decide +kernel
theorem kb_int_tuple : kitB "int" "tuple" = some false := by decide +kernel
theorem kb_str_int : kitB "str" "int" = some false := by decide +kernel
theorem kb_str_bool : kitB "str" "bool" = some false := by decide +kernel
theorem kb_str_str : kitB "str" "str" = some true := by decide +kernel
theorem kb_str_dict : kitB "str" "dict" = some false := by decide +kernel
theorem kb_str_list : kitB "str" "list" = some false := by decide +kernel
theorem kb_str_tuple : kitB "str" "tuple" = some false := by decide +kernel
theorem kb_tuple_int : kitB "tuple" "int" = some false := by decide +kernel
theorem kb_tuple_bool : kitB "tuple" "bool" = some false := by decide +kernel
theorem kb_tuple_str : kitB "tuple" "str" = some false := by decide +kernel
theorem kb_tuple_dict : kitB "tuple" "dict" = some false := by decide +kernel
theorem kb_tuple_list : kitB "tuple" "list" = some false := by decide +kernel
theorem kb_tuple_tuple : kitB "tuple" "tuple" = some true := by decide +kernel
theorem kb_list_int : kitB "list" "int" = some false := by decide +kernel
theorem kb_list_bool : kitB "list" "bool" = some false := by decide +kernel
theorem kb_list_str : kitB "list" "str" = some false := by decide +kernel
theorem kb_list_dict : kitB "list" "dict" = some false := by decide +kernel
theorem kb_list_list : kitB "list" "list" = some true := by decide +kernel
theorem kb_list_tuple : kitB "list" "tuple" = some false := by decide +kernel
theorem kb_dict_int : kitB "dict" "int" = some false := by decide +kernel
theorem kb_dict_bool : kitB "dict" "bool" = some false := by decide +kernel
theorem kb_dict_str : kitB "dict" "str" = some false := by decide +kernel
theorem kb_dict_dict : kitB "dict" "dict" = some true := by decide +kernel
theorem kb_dict_list : kitB "dict" "list" = some false := by decide +kernel
theorem kb_dict_tuple : kitB "dict" "tuple" = some false := by decide +kernel
theorem i_isi {K : PySem.W.Frag} {H : Hp} {Q : VK} {x : V} {t n : String} {b : Bool} (ty : TyX K H x (.type t)) (e : kitB t n = some b) (q : Q (.bl b) H) : rIsi K [x, .ty n] H Q := ⟨x, .ty n, .type t, .type n, b, rfl, .ty n, ty, kit_ty e, q⟩
end Me
set_option maxHeartbeats 8000000
namespace Me
open PySem PySem.Spec PyProof.Rows L2
/-! ### x == y and x != y where x is an instance whose class has its own ==, with either answer -/
section
variable {prog : Program} {w : World} {A : Around} {E : Value → Shared → Prop} {s : Shared} {K : PySem.W.Frag} {x C f : Addr} {ox : Obj} {od : Option Obj} {b tb : Value}
theorem ifBound_B {M : Model} {name : Str} {id : String} {args : List Value} {Q : Option Value → Shared → Prop} (X : K.In s.heap) (I : PySem.W.InstAt s.heap x ox C od) (hs : PySem.W.findIn K (.ref C) name = some (some (.builtin id))) (S : Slot "object" name id)
    (h : wpAny M A (call (.builtin id) (.ref x :: args)) (fun v => Q (some v)) E s) : wpAny M A (callSpecialIfBound? (.ref x) name args) Q E s := by
  simp only [callSpecialIfBound?, bindSpecialIfBound?]
  refine wpAny_holding (wpAny_bind (wpAny_bind (wpAny_bind (I.type.here ((PySem.W.looks_findIn X hs).here ?_)))))
  simp only [S.bind]
  refine wpAny_bind (wpAny_askSetting (wpAny_ite ?_))
  have fin : wpAny M A (call (.builtin id) ([.ref x] ++ args) >>= fun v => pure (some v)) Q E s := wpAny_bind (wpAny_mono h (fun v s' h' => wpAny_pure h') fun _ _ h' => h')
  split
  · exact wpAny_bind (wpAny_pure (wpAny_pure fin))
  · exact wpAny_tryCatch (wpAny_bind (wpAny_pure (wpAny_pure fin)))
theorem objNe_K (X : K.In s.heap) (I : PySem.W.InstAt s.heap x ox C od) (hs : PySem.W.findIn K (.ref C) "__eq__" = some (some (.ref f))) (hf : PySem.W.isFn K (.ref f) = true) (hu : A.units < cLine) {Q : Fin → Shared → Prop}
    (hcall : wpAny (model prog w) A (call (.ref f) [.ref x, b]) (fun v s' => ∃ c, v = .bool c ∧ Q (.done (.ret (.bool (!c)))) s') E s) :
    wpAny (model prog w) A (Builtin.«object.__ne__» ⟨[.ref x, b], []⟩) Q E s := by
  unfold Builtin.«object.__ne__»
  repeat (first
    | with_reducible refine wpAny_cRoomFor hu ?_
    | (refine wpAny_bind (m := callSpecialIfBound? (.ref x) (Str.ofString "__eq__") [b])
        (PySem.W.ifBound_K X I hs hf (wpAny_mono hcall (fun r s' hr => by
          obtain ⟨c, rfl, hq⟩ := hr
          repeat (first | exact hq | exact wpAny_pure hq | exact wpAny_truthy_bool hq | (refine wpAny_bind (m := truthy (.bool _)) (wpAny_truthy_bool ?_)) | wp_step)) fun _ _ e => e)))
    | wp_step)
theorem ne_own {h₀ : Heap} {L : Addr} {m : Str → Option Value} (hu : A.units + 1 < cLine) (F : Fr h₀ L s.heap m) (X₀ : K.In h₀) (I : PySem.W.InstAt s.heap x ox C od) (hb : PySem.W.Looks (model prog w) s.heap (typeOf b) tb) (hn : PySem.W.notFirst K C tb = true)
    (hne : PySem.W.findIn K (.ref C) "__ne__" = some (some (.builtin "object.__ne__"))) (hm : PySem.W.mroIn K C (.type "object") = some true)
    (hs : PySem.W.findIn K (.ref C) "__eq__" = some (some (.ref f))) (hf : PySem.W.isFn K (.ref f) = true) {Q : Value → Shared → Prop}
    (hcall : wpAny (model prog w) A.in1 (call (.ref f) [.ref x, b]) (fun v s' => ∃ c, v = .bool c ∧ Q (.bool (!c)) s') E s) :
    wpAny (model prog w) A (richCompare .NotEq (.ref x) b) Q E s := by
  have X := X₀.keeps F.keep
  have io : PySem.W.Looks (model prog w) s.heap (isInstance (.ref x) (.type "object")) true := I.type.andThen (PySem.W.looks_mroIn X hm)
  have one : wpAny (model prog w) A (tryCompare (.ref x) (cmpInfo .NotEq).2.1 b) (fun r s' => ∃ v, r = some v ∧ Q v s') E s := by
    unfold tryCompare
    refine wpAny_bind (ifBound_B X I hne PySem.F.cmp_object.ne (wpAny_call (codeAny_call_builtin PySem.F.cmp_object.ne.plain PySem.F.cmpEntry_ne (PySem.W.check_slot PySem.F.cmpKind_ne PySem.F.cmpSplit_ne io (PySem.F.cmpArgs_ne _ _)
      (objNe_K (A := A.in1) X I hs hf hu (wpAny_mono hcall (fun v s' hv => ?_) fun _ _ e => e))))))
    obtain ⟨c, rfl, hq⟩ := hv
    exact ⟨c, rfl, wpAny_pure ⟨_, rfl, hq⟩⟩
  unfold richCompare
  simp only [oneThing_ref]
  refine wpAny_holding (wpAny_bind (wpAny_cRoomFor (Nat.lt_of_succ_lt hu) ?_))
  refine wpAny_bind (I.type.here (wpAny_bind (hb.here ?_)))
  split
  · rename_i q
    have e : PySem.W.subIn K tb (.ref C) = some false := by
      rcases Bool.or_eq_true_iff.mp hn with e | e
      · rw [beq_iff_eq.mp e] at q; simp at q
      · exact beq_iff_eq.mp e
    refine wpAny_bind ((PySem.W.looks_subIn X e).here ?_)
    simp only [Bool.false_eq_true, if_false]
    refine wpAny_bind (wpAny_mono one (fun r s' z => ?_) fun _ _ e => e)
    obtain ⟨v, rfl, hq⟩ := z
    exact wpAny_pure hq
  · refine wpAny_bind (wpAny_pure ?_)
    simp only [Bool.false_eq_true, if_false]
    refine wpAny_bind (wpAny_mono one (fun r s' z => ?_) fun _ _ e => e)
    obtain ⟨v, rfl, hq⟩ := z
    exact wpAny_pure hq
end
/-- the class at C with the text's own == at f -/
structure OwnC (K : PySem.W.Frag) (C f : Addr) : Prop where
  eqA : PySem.W.findIn K (.ref C) "__eq__" = some (some (.ref f))
  eqF : PySem.W.isFn K (.ref f) = true
  neA : PySem.W.findIn K (.ref C) "__ne__" = some (some (.builtin "object.__ne__"))
  top : PySem.W.mroIn K C (.type "object") = some true
def rOwn (K : PySem.W.Frag) (neg : Bool) (C f : Addr) (sp : Sp) (E : XK) : R2 := fun x y H Q => ∃ a b D dx dy fs gs, x = .ref a ∧ y = .ref b ∧ H a = some (.ins C dx fs) ∧ H b = some (.ins D dy gs) ∧ PySem.W.notFirst K C (.ref D) = true ∧
  sp [x, y] H (fun v H' => ∃ c : Bool, v = .bl c ∧ Q (.bl (c != neg)) H') E
section
variable {X : Cx} {CX : CXT} {n : Nat} {C f : Addr} {fd : FuncData} {ps : List Str} {sp : Sp} {E : XK}
theorem own_call {pins : List (Addr × Obj)} {σ : L2.St} {H : Hp} {s : Shared} {x y : V} {u v : Value} {Q : VK} {A : Around} {R : Value → Shared → Prop} (F : FnOk X.prog X.w X.K X.mg X.base CX n f fd ps sp) (hb : Binds X.K fd ps []) (hx : Passes CX X E) (sb : L2.Sub X n A) (I : Inv X pins σ H s) (rx : RelV x u) (ry : RelV y v)
    (hsp : sp [x, y] H Q E) (k : ∀ z w' H' s', RelV z w' → Inv X pins σ H' s' → Q z H' → R w' s') : wpAny (model X.prog X.w) A (call (.ref f) [u, v]) R X.xe s := by
  have e0 : Env0 X.prog X.w X.K X.mg X.base A X.stack s H := by
    have e := I.env0
    exact ⟨by rw [sb.fr]; exact e.frames, e.mod, e.bs, e.bsz, e.funs, e.frf, e.hok, e.bare⟩
  have hl := F.len _ _ _ _ hsp
  have r2 : L2.Vals [x, y] [u, v] := .cons rx (.cons ry .nil)
  refine wpAny_call (codeAny_mono (F.run A X.stack s H ⟨[u, v], []⟩ [u, v] [x, y] _ E sb.room e0 (by
    have := hb s [u, v] I.kIn (by simpa using hl)
    simpa using this) r2 hsp) fun r s' hq => ?_)
  cases r with
  | error e => exact hx pins σ H s e s' I hq
  | ok fl =>
    cases fl with
    | ret w' =>
      obtain ⟨z, H', I', rz, q⟩ := I.after hq
      exact k z w' H' s' rz I' q
    | next => exact False.elim hq
    | brk => exact False.elim hq
    | cont => exact False.elim hq
theorem op_own (O : OwnC X.K C f) (F : FnOk X.prog X.w X.K X.mg X.base CX n f fd ps sp) (hb : Binds X.K fd ps []) (hx : Passes CX X E) (hr : Room n X.A) : OpR X (compareOp .Eq) (rOwn X.K false C f sp E) := by
  intro pins s σ H x y v u Q I rx ry hq
  obtain ⟨a, b, D, dx, dy, fs, gs, rfl, rfl, ha, hb', nf, hsp⟩ := hq
  show wpAny (model X.prog X.w) X.A (richCompare .Eq v u) (EP X pins σ Q) X.xe s
  cases rx
  cases ry
  obtain ⟨mA, J, _⟩ := ins_get I.hok ha
  obtain ⟨mB, J', _⟩ := ins_get I.hok hb'
  obtain ⟨od, J, _⟩ := J.look
  obtain ⟨od', J', _⟩ := J'.look
  obtain ⟨m, hF⟩ := I.fr
  refine PySem.W.cmp_K (op := .Eq) (tb := .ref D) hr.units0 hF I.ok.mod.kin J J'.type nf O.eqA O.eqF ?_
  refine own_call F hb hx ⟨hr, rfl⟩ I (show RelV (V.ref a) (Value.ref a) from rfl) (show RelV (V.ref b) (Value.ref b) from rfl) hsp fun z w' H' s' rz I' q => ?_
  obtain ⟨c, rfl, q⟩ := q
  cases rz
  exact ⟨.bl c, H', I', rfl, by rw [Bool.bne_false] at q; exact q⟩
theorem op_ownNe (O : OwnC X.K C f) (F : FnOk X.prog X.w X.K X.mg X.base CX n f fd ps sp) (hb : Binds X.K fd ps []) (hx : Passes CX X E) (hr : Room (n + 1) X.A) : OpR X (compareOp .NotEq) (rOwn X.K true C f sp E) := by
  intro pins s σ H x y v u Q I rx ry hq
  obtain ⟨a, b, D, dx, dy, fs, gs, rfl, rfl, ha, hb', nf, hsp⟩ := hq
  show wpAny (model X.prog X.w) X.A (richCompare .NotEq v u) (EP X pins σ Q) X.xe s
  cases rx
  cases ry
  obtain ⟨mA, J, _⟩ := ins_get I.hok ha
  obtain ⟨mB, J', _⟩ := ins_get I.hok hb'
  obtain ⟨od, J, _⟩ := J.look
  obtain ⟨od', J', _⟩ := J'.look
  obtain ⟨m, hF⟩ := I.fr
  refine ne_own (tb := .ref D) (f := f) (by have := hr.un; omega) hF I.ok.mod.kin J J'.type nf O.neA O.top O.eqA O.eqF ?_
  refine own_call F hb hx (L2.Sub.in1 ⟨hr, rfl⟩) I (show RelV (V.ref a) (Value.ref a) from rfl) (show RelV (V.ref b) (Value.ref b) from rfl) hsp fun z w' H' s' rz I' q => ?_
  obtain ⟨c, rfl, q⟩ := q
  cases rz
  exact ⟨c, rfl, .bl (!c), H', I', rfl, by rw [Bool.bne_true] at q; exact q⟩
end
/-! ### x.__class__.__name__ of None, an int, a text, a tuple -/
def clsNm (H : Hp) : V → Option String
  | .non => some "NoneType"
  | .int _ => some "int"
  | .str _ => some "str"
  | .ref a => match H a with
    | some (.tup _) => some "tuple"
    | _ => none
  | _ => none
def tClsNm (te : TE) : TE := fun σ H Q => te σ H fun x H1 => ∃ t, clsNm H1 x = some t ∧ Q (.str (Str.ofString t)) H1
section
variable {prog : Program} {w : World} {A : Around} {E : Value → Shared → Prop} {s : Shared}
theorem by_int {n : Int} {u tk : Tok} {Q : Value → Shared → Prop} (hq : Q (.type "int") s) : wpAny (model prog w) A (getAttrBy (.int n u) (.str "__class__" tk) true true) Q E s := by
  obtain ⟨h, g, d, t, os⟩ := s
  have hT : (⟨h, g, d, t, os⟩ : Shared).TypeIs (.int n u) "int" := rfl
  have f2 := PySem.F.slot_int_getattribute.lookup
  have f3 := PySem.F.slot_int_getattribute.bind (.int n u)
  repeat (any_goals (first | assumption | wp_step))
  refine class_call_int ?_
  repeat (any_goals (first | assumption | wp_step))
theorem by_str {x : Str} {u tk : Tok} {Q : Value → Shared → Prop} (hq : Q (.type "str") s) : wpAny (model prog w) A (getAttrBy (.str x u) (.str "__class__" tk) true true) Q E s := by
  obtain ⟨h, g, d, t, os⟩ := s
  have hT : (⟨h, g, d, t, os⟩ : Shared).TypeIs (.str x u) "str" := rfl
  have f2 := PySem.F.slot_str_getattribute.lookup
  have f3 := PySem.F.slot_str_getattribute.bind (.str x u)
  repeat (any_goals (first | assumption | wp_step))
  refine class_call_str ?_
  repeat (any_goals (first | assumption | wp_step))
theorem by_none {tk : Tok} {Q : Value → Shared → Prop} (hq : Q (.type "NoneType") s) : wpAny (model prog w) A (getAttrBy .none (.str "__class__" tk) true true) Q E s := by
  obtain ⟨h, g, d, t, os⟩ := s
  have hT : (⟨h, g, d, t, os⟩ : Shared).TypeIs (.none) "NoneType" := rfl
  have f2 := PySem.F.slot_NoneType_getattribute.lookup
  have f3 := PySem.F.slot_NoneType_getattribute.bind (.none)
  repeat (any_goals (first | assumption | wp_step))
  refine class_call_none ?_
  repeat (any_goals (first | assumption | wp_step))
theorem by_tuple {a : Addr} {o : Obj} {tk : Tok} {Q : Value → Shared → Prop} (hx : s.heap.get? a = some o) (hc : o.cls = .type "tuple") (hq : Q (.type "tuple") s) : wpAny (model prog w) A (getAttrBy (.ref a) (.str "__class__" tk) true true) Q E s := by
  obtain ⟨h, g, d, t, os⟩ := s
  have hT : (⟨h, g, d, t, os⟩ : Shared).TypeIs (.ref a) "tuple" := ⟨o, hx, hc⟩
  have f2 := PySem.F.slot_tuple_getattribute.lookup
  have f3 := PySem.F.slot_tuple_getattribute.bind (.ref a)
  repeat (any_goals (first | assumption | wp_step))
  refine class_call_tuple hx hc ?_
  repeat (any_goals (first | assumption | wp_step))
end
end Me
set_option maxHeartbeats 8000000
namespace Me
open PySem PySem.Spec PyProof.Rows L2
theorem fi_nil {K : PySem.W.Frag} {n : String} {nm : Str} {r : Option (Option Value)} (h : PySem.W.findIn [] (.type n) nm = r) : PySem.W.findIn K (.type n) nm = r := h
theorem ti_nil {K : PySem.W.Frag} {n : String} {r : Option Value} (h : PySem.W.typeIn [] (.builtin n) = r) : PySem.W.typeIn K (.builtin n) = r := h
theorem find_nm {K : PySem.W.Frag} {c : Value} : PySem.W.findCls K c (.type "type") "__name__" = some (.get (.builtin "getset_descriptor.__get__") (.builtin "type.__name__") c (.type "type")) := by
  have h1 : PySem.W.findIn K (.type "type") "__name__" = some (some (.builtin "type.__name__")) := by exact fi_nil (by decide +kernel)
  have h2 : PySem.W.typeIn K (.builtin "type.__name__") = some (.type "getset_descriptor") := by exact ti_nil (by decide +kernel)
  have h3 : PySem.W.findIn K (.type "getset_descriptor") "__get__" = some (some (.builtin "getset_descriptor.__get__")) := by exact fi_nil (by decide +kernel)
  have h4 : PySem.W.findIn K (.type "getset_descriptor") "__set__" = some (some (.builtin "getset_descriptor.__set__")) := by exact fi_nil (by decide +kernel)
  have h5 : PySem.W.specialIn K (.builtin "type.__name__") "__get__" = some (some (.builtin "getset_descriptor.__get__")) := by unfold PySem.W.specialIn; rw [h2]; exact h3
  have h6 : PySem.W.takesIn K (.builtin "type.__name__") = some true := by
    have : PySem.W.specialIn K (.builtin "type.__name__") "__set__" = some (some (.builtin "getset_descriptor.__set__")) := by unfold PySem.W.specialIn; rw [h2]; exact h4
    unfold PySem.W.takesIn; rw [this]
  unfold PySem.W.findCls
  rw [h1]
  dsimp only [Option.bind]
  rw [h5]
  dsimp only [Option.bind]
  rw [h6]
theorem nm_q {T : String} (h : T ∈ ["NoneType", "int", "str", "tuple"]) : PySem.W.ktynFast T = T ∧ (Str.ofString T).length ≤ sizeLine ∧ PySem.W.kitMeta T = true ∧ Manifest.isStub T = false := by
  simp only [List.mem_cons, List.not_mem_nil, or_false] at h
  rcases h with rfl | rfl | rfl | rfl
  all_goals refine ⟨by decide +kernel, by decide +kernel, by decide +kernel, by decide +kernel⟩
theorem clsNm_mem {H : Hp} {x : V} {t : String} (h : clsNm H x = some t) : t ∈ ["NoneType", "int", "str", "tuple"] := by
  unfold clsNm at h
  split at h
  · cases h; simp
  · cases h; simp
  · cases h; simp
  · split at h
    · cases h; simp
    · cases h
  · cases h
theorem pe_clsNm {X : Cx} {e : Expr} {te : TE} {p1 p2 : Pos} (he : PE X e te) (hb : attributeBase e "__class__" X.env (eval e X.env) = eval e X.env := by rfl)
    (hb2 : attributeBase (.Attribute e "__class__" p1) "__name__" X.env (eval (.Attribute e "__class__" p1) X.env) = eval (.Attribute e "__class__" p1) X.env := by rfl) : PE X (.Attribute (.Attribute e "__class__" p1) "__name__" p2) (tClsNm te) := by
  refine ⟨fun pins s σ H Q I h => attr_of hb2 (attr_of hb (thn (he.run pins s σ H _ I h) fun u s1 hh => ?_))⟩
  obtain ⟨x, H1, J, rx, t, et, q⟩ := hh
  have last : wpAny (model X.prog X.w) X.A (getAttr (.type t) "__name__" true) (EP X pins σ Q) X.xe { s1 with toks := s1.toks + 1 } := by
    have J1 := J.tok (s1.toks + 1)
    obtain ⟨m, hF⟩ := J1.fr
    obtain ⟨q1, q2, q3, q4⟩ := nm_q (clsNm_mem et)
    exact PySem.W.ktyn_attr hF J1.ok.mod.kin q3 q4 find_nm q1 q2 fun tk u' => ⟨.str (Str.ofString t), H1, J1.tok u', ⟨tk, rfl⟩, q⟩
  have first : ∀ R : Value → Shared → Prop, R (.type t) { s1 with toks := s1.toks + 1 } → wpAny (model X.prog X.w) X.A (getAttr u "__class__" true) R X.xe s1 := by
    intro R hR
    unfold getAttr
    refine wpAny_bind (wpAny_mkText ?_)
    cases x with
    | non => cases et; cases rx; exact by_none hR
    | int i => cases et; obtain ⟨t', rfl⟩ := (show ∃ t, u = Value.int i t from rx); exact by_int hR
    | str z => cases et; obtain ⟨t', rfl⟩ := (show ∃ t, u = Value.str z t from rx); exact by_str hR
    | ref a =>
      cases (show u = Value.ref a from rx)
      have et' : (match H1 a with | some (.tup _) => some "tuple" | _ => none) = some t := et
      clear last et
      split at et'
      · rename_i xs hx
        cases et'
        obtain ⟨its, r, ⟨o, ho, hc, _⟩, _⟩ := J.tuple (.of hx)
        exact by_tuple (s := { s1 with toks := s1.toks + 1 }) ho hc hR
      · cases et'
    | _ => cases et
  exact first _ last
end Me
set_option maxHeartbeats 8000000
namespace Me
open PySem L2
structure DA where
  f : Addr
  fd : FuncData
/-- a def of the text -/
structure Df (K : PySem.W.Frag) (mg : Str → Option Value) (x : Str) (st : Stmt) (ps : List Str) (d : DA) : Prop where
  fn : FunD K x x (defArgs st) (defBody st) (defScope st) [] [] d.f d.fd
  mg : mg x = some (.ref d.f)
  b : Binds K d.fd ps []
theorem Df.kp {K : PySem.W.Frag} {mg : Str → Option Value} {x : Str} {st : Stmt} {ps : List Str} {d : DA} (h : Df K mg x st ps d) : PySem.W.keepIn K (.ref d.f) = true := h.fn.kp
theorem ok0 {P : Program} {w : World} {K : PySem.W.Frag} {mg : Str → Option Value} {base : Heap} {x qual : Str} {params : Arguments} {body : List Stmt} {scope : Scope} {dv : List V} {f : Addr} {fd : FuncData} {N ps : List Str} {k : Nat} {sp : Sp} (F : FunD K x qual params body scope dv [] f fd) (S : FnScope N ps scope) (len : ∀ vs H Q E, sp vs H Q E → vs.length = ps.length)
    (go : ∀ (cdv : Value) (A : Around) (outer : List Env) (s : Shared) (H : Hp) (vs : List V) (Q : VK) (E : XK), Room k (A.deeper (PyProof.Rows.envOfC qual scope s.heap.objs.size f cdv)) → sp vs H Q E →
      ∃ t, PSs (cxOf CX0 P w K mg base N qual scope f cdv A outer s H E).nox body t ∧ t { nx := fun _ H' => Q .non H', rt := Q } (start N vs) H) : FnOk P w K mg base CX0 (k + 1) f fd ps sp := by
  refine F.ok S len fun cdv A outer s H vs Q E hr h => ?_
  obtain ⟨t, h1, q⟩ := go cdv A outer s H vs Q E hr h
  exact ⟨t, h1.nox, q⟩
theorem Df.ok {P : Program} {w : World} {K : PySem.W.Frag} {mg : Str → Option Value} {base : Heap} {x : Str} {st : Stmt} {ps ps' N : List Str} {d : DA} {k : Nat} {sp : Sp} (D : Df K mg x st ps' d) (S : FnScope N ps (defScope st)) (len : ∀ vs H Q E, sp vs H Q E → vs.length = ps.length)
    (go : ∀ (cdv : Value) (A : Around) (outer : List Env) (s : Shared) (H : Hp) (vs : List V) (Q : VK) (E : XK), Room k (A.deeper (PyProof.Rows.envOfC x (defScope st) s.heap.objs.size d.f cdv)) → sp vs H Q E →
      ∃ t, PSs (cxOf CX0 P w K mg base N x (defScope st) d.f cdv A outer s H E).nox (defBody st) t ∧ t { nx := fun _ H' => Q .non H', rt := Q } (start N vs) H) : FnOk P w K mg base CX0 (k + 1) d.f d.fd ps sp := ok0 D.fn S len go
theorem Df.okX {P : Program} {w : World} {K : PySem.W.Frag} {mg : Str → Option Value} {base : Heap} {x : Str} {st : Stmt} {ps ps' N : List Str} {d : DA} {k : Nat} {sp : Sp} (D : Df K mg x st ps' d) (S : FnScope N ps (defScope st)) (len : ∀ vs H Q E, sp vs H Q E → vs.length = ps.length)
    (go : ∀ (cdv : Value) (A : Around) (outer : List Env) (s : Shared) (H : Hp) (vs : List V) (Q : VK) (E : XK), Room k (A.deeper (PyProof.Rows.envOfC x (defScope st) s.heap.objs.size d.f cdv)) → sp vs H Q E →
      ∃ t, PSs (cxOf (L2.CX P w) P w K mg base N x (defScope st) d.f cdv A outer s H E) (defBody st) t ∧ t { nx := fun _ H' => Q .non H', rt := Q } (start N vs) H) : FnOk P w K mg base (L2.CX P w) (k + 1) d.f d.fd ps sp := D.fn.ok S len go
theorem ne_none {H : Hp} {a b : Addr} {o : HO} (h' : H a = none) (h : H b = some o) : b ≠ a := ne_of_none h h'
def vNames : List Str := ["other", "stepped", "in_step", "short", "refused"]
/-- what the written part says of the class Verdict -/
structure Vd (K : PySem.W.Frag) (mg : Str → Option Value) (C : Addr) (I E : DA) : Prop where
  gl : mg "Verdict" = some (.ref C)
  cl : Cls K C
  no : ∀ f ∈ allK, NoAttr K C f
  own : OwnC K C E.f
  mkI : Mk K C I.f
  cc : PySem.W.findIn K (.ref C) "__class__" = some (some (.builtin "object.__class__"))
  kt : PySem.W.kitOne K (.ref C) (.ref C) = some true
  sp : PySem.W.specialIn K (.builtin "object.__class__") "__get__" = some (some (.builtin "getset_descriptor.__get__"))
  tk : PySem.W.takesIn K (.builtin "object.__class__") = some true
theorem Vd.ty {K : PySem.W.Frag} {mg : Str → Option Value} {C : Addr} {I E : DA} (k : Vd K mg C I E) {H : Hp} {a dx : Addr} {fs : List (Str × V)} (h : H a = some (.ins C dx fs)) : TyX K H (.ref a) (.ref C) := .base (.ins h k.cl k.cc k.sp k.tk k.own.top)
theorem passF {X : Cx} : Passes (L2.CX X.prog X.w) X E0 := passL
/-! ### things -/
/-- a thing that the script draws, and what it is -/
inductive Tg (H : Hp) : V → PyData → Prop where
  | non : Tg H .non .none
  | int (i : Int) : Tg H (.int i) (.int i)
  | str (z : Str) (ok : PyData.strOk z = true) : Tg H (.str z) (.str z)
  | tup {t : Addr} {x y : Str} (h : H t = some (.tup [.str x, .str y])) (ox : PyData.strOk x = true) (oy : PyData.strOk y = true) : Tg H (.ref t) (.tuple [.str x, .str y])
def nmD : PyData → String
  | .none => "NoneType"
  | .int _ => "int"
  | .str _ => "str"
  | .tuple _ => "tuple"
  | _ => ""
/-- a thing as == reads it -/
structure Gd (K : PySem.W.Frag) (H : Hp) (v : V) (d : PyData) : Prop where
  dp : Dp K H v d
  sh : SeqAt.shaped d = true
  nm : clsNm H v = some (nmD d)
theorem nm_tup {H : Hp} {t : Addr} {xs : List V} (h : H t = some (.tup xs)) : clsNm H (.ref t) = some "tuple" := by unfold clsNm; dsimp only; rw [h]
def sameD (d e : PyData) : Bool := decide (nmD d = nmD e) && PyData.eqv d e
theorem Tg.went {p : Addr} {H H' : Hp} {v : V} {d : PyData} (S : StOk H p) (h : Tg H v d) (w : Went p H H') : Tg H' v d := by
  cases h with
  | non => exact .non
  | int i => exact .int i
  | str z ok => exact .str z ok
  | tup h ox oy =>
    refine .tup (w.get (fun e => ?_) h) ox oy
    obtain ⟨L, ns, i, b, c, q, _⟩ := S
    rw [e, q] at h
    cases h
theorem Tg.same {H H' : Hp} {v : V} {d : PyData} (h : Tg H v d) (s : Same H H') : Tg H' v d := by
  cases h with
  | non => exact .non
  | int i => exact .int i
  | str z ok => exact .str z ok
  | tup h ox oy => exact .tup (s _ _ h) ox oy
theorem shaped_str {z : Str} (ok : PyData.strOk z = true) : SeqAt.shaped (.str z) = true := by
  unfold SeqAt.shaped
  rw [show PyData.canLay0 (.str z) = PyData.strOk z from by simp [PyData.canLay0], ok]
  rfl
theorem shaped_pair {x y : Str} (ox : PyData.strOk x = true) (oy : PyData.strOk y = true) : SeqAt.shaped (.tuple [.str x, .str y]) = true := by
  unfold SeqAt.shaped
  rw [show PyData.canLay0 (.tuple [.str x, .str y]) = (PyData.strOk x && (PyData.strOk y && true)) from by simp [PyData.canLay0, PyData.canLayAll0], ox, oy]
  rfl
theorem Tg.gd {K : PySem.W.Frag} {H : Hp} {v : V} {d : PyData} (h : Tg H v d) : Gd K H v d := by
  cases h with
  | non => exact ⟨.non, by rfl, rfl⟩
  | int i => exact ⟨.int i, by rfl, rfl⟩
  | str z ok => exact ⟨.str z, shaped_str ok, rfl⟩
  | tup h ox oy => exact ⟨.tup (SqT.of h) (.cons (.str _) (.cons (.str _) .nil)), shaped_pair ox oy, nm_tup h⟩
theorem Tg.gd1 {K : PySem.W.Frag} {H : Hp} {v : V} {d : PyData} {t : Addr} (h : Tg H v d) (e : H t = some (.tup [v])) : Gd K H (.ref t) (.tuple [d]) := by
  refine ⟨.tup (SqT.of e) (.cons h.gd.dp .nil), ?_, nm_tup e⟩
  cases h with
  | non => rfl
  | int i => rfl
  | str z ok =>
    unfold SeqAt.shaped
    rw [show PyData.canLay0 (.tuple [.str z]) = (PyData.strOk z && true) from by simp [PyData.canLay0, PyData.canLayAll0], ok]
    rfl
  | tup h ox oy =>
    unfold SeqAt.shaped
    rw [show PyData.canLay0 (.tuple [.tuple [.str _, .str _]]) = ((PyData.strOk _ && (PyData.strOk _ && true)) && true) from by simp [PyData.canLay0, PyData.canLayAll0]; rfl, ox, oy]
    rfl
theorem eqv_str (x y : Str) : PyData.eqv (.str x) (.str y) = (x == y) := by simp [PyData.eqv]
theorem Tg.self {H : Hp} {v : V} {d : PyData} (h : Tg H v d) : sameD d d = true ∧ PyData.eqv d d = true := by
  cases h <;> simp [sameD, PyData.eqv, PyData.eqvAll]
theorem Tg.bent {H : Hp} {v : V} {d : PyData} (h : Tg H v d) : sameD d (.tuple [d]) = false ∧ sameD (.tuple [d]) d = false := by
  cases h <;> simp [sameD, nmD, PyData.eqv, PyData.eqvAll]
theorem Tg.two {H H' : Hp} {v w : V} {d e : PyData} (h : Tg H v d) (h' : Tg H' w e) : sameD d e = PyData.eqv d e := by
  cases h <;> cases h' <;> simp [sameD, nmD, PyData.eqv, PyData.eqvAll]
end Me
local macro_rules | `(tactic| walk_at "kb") => `(tactic| first | with_reducible exact Me.kb_NoneType_int | with_reducible exact Me.kb_NoneType_bool | with_reducible exact Me.kb_NoneType_str | with_reducible exact Me.kb_NoneType_dict | with_reducible exact Me.kb_NoneType_list | with_reducible exact Me.kb_NoneType_tuple | with_reducible exact Me.kb_bool_int | with_reducible exact Me.kb_bool_bool | with_reducible exact Me.kb_bool_str | with_reducible exact Me.kb_bool_dict | with_reducible exact Me.kb_bool_list | with_reducible exact Me.kb_bool_tuple | with_reducible exact Me.kb_int_int | with_reducible exact Me.kb_int_bool | with_reducible exact Me.kb_int_str | with_reducible exact Me.kb_int_dict | with_reducible exact Me.kb_int_list | with_reducible exact Me.kb_int_tuple | with_reducible exact Me.kb_str_int | with_reducible exact Me.kb_str_bool | with_reducible exact Me.kb_str_str | with_reducible exact Me.kb_str_dict | with_reducible exact Me.kb_str_list | with_reducible exact Me.kb_str_tuple | with_reducible exact Me.kb_tuple_int | with_reducible exact Me.kb_tuple_bool | with_reducible exact Me.kb_tuple_str | with_reducible exact Me.kb_tuple_dict | with_reducible exact Me.kb_tuple_list | with_reducible exact Me.kb_tuple_tuple | with_reducible exact Me.kb_list_int | with_reducible exact Me.kb_list_bool | with_reducible exact Me.kb_list_str | with_reducible exact Me.kb_list_dict | with_reducible exact Me.kb_list_list | with_reducible exact Me.kb_list_tuple | with_reducible exact Me.kb_dict_int | with_reducible exact Me.kb_dict_bool | with_reducible exact Me.kb_dict_str | with_reducible exact Me.kb_dict_dict | with_reducible exact Me.kb_dict_list | with_reducible exact Me.kb_dict_tuple)
local macro_rules | `(tactic| walk_at "hp") => `(tactic| first | with_reducible assumption | with_reducible exact L2.upd_same | ((with_reducible refine' Me.upd_get ?n ?h); (case h => walk_at "hp"); (case n => walk_at "ne")) | ((with_reducible refine' Me.Went.get ?w ?n ?h); (case w => with_reducible assumption); (case h => walk_at "hp"); (case n => walk_at "ne")))
local macro_rules | `(tactic| walk_at "ne") => `(tactic| first | with_reducible assumption | ((with_reducible refine Ne.symm ?_); with_reducible assumption) | ((with_reducible refine' Me.ne_none ?n ?h); (case n => with_reducible assumption); (case h => walk_at "hp")) | ((with_reducible refine' Ne.symm (Me.ne_none ?n ?h)); (case n => with_reducible assumption); (case h => walk_at "hp")))
local macro_rules | `(tactic| walk_at "side") => `(tactic| first | rfl | assumption | omega | decide | (constructor <;> first | rfl | assumption | omega | decide) | (refine ⟨?_, ?_, ?_⟩ <;> first | omega | decide) | (refine Or.inl ⟨?_, ?_⟩ <;> first | omega | decide) | (refine Or.inr ⟨?_, ?_⟩ <;> first | omega | decide))
local macro_rules | `(tactic| walk_at "go1") => `(tactic| first
  | with_reducible refine Me.i_seq ?_ | with_reducible refine Me.i_var rfl ?_ | with_reducible refine Me.i_c ?_ | with_reducible refine Me.i_op ?_ | with_reducible refine Me.i_cons ?_ | with_reducible refine Me.i_nil ?_
  | with_reducible refine Me.i_cb ?_ | with_reducible refine Me.i_call ?_ | with_reducible refine Me.i_asg ?_ | with_reducible refine Me.i_gname ?_ | with_reducible refine Me.i_gsub ?_ | with_reducible refine Me.i_ret ?_ | with_reducible refine Me.i_retN ?_
  | with_reducible refine Me.i_drop ?_ | with_reducible refine Me.i_ifS ?_ | with_reducible refine Me.i_if ?_ | with_reducible refine Me.i_and ?_ | with_reducible refine Me.i_or ?_ | with_reducible refine Me.i_not ?_ | with_reducible refine Me.i_test ?_ | with_reducible refine Me.i_tB ?_
  | with_reducible refine Me.i_andV ?_ | with_reducible refine Me.i_orV ?_ | with_reducible refine Me.i_notV ?_ | with_reducible refine Me.i_next ?_ | with_reducible refine Me.i_un ?_ | with_reducible refine Me.i_lst ?_ | with_reducible refine Me.i_tup ?_ | with_reducible refine Me.i_dnew (fun _ _ => ?_)
  | with_reducible refine Me.i_rI0 ?_ | ((with_reducible refine Me.i_rI ?_ ?_); (walk_at "side")) | with_reducible refine Me.i_rU ?_ | with_reducible refine Me.i_rEq rfl ?_ | with_reducible refine Me.i_rNe rfl ?_
  | ((with_reducible refine' Me.i_ixl ?h ?e ?q); (case h => walk_at "hp"); (case e => rfl)) | ((with_reducible refine' Me.i_ixt ?h ?e ?q); (case h => walk_at "hp"); (case e => rfl)) | ((with_reducible refine' Me.i_setl ?h ?e ?q); (case h => walk_at "hp"); (case e => rfl))
  | with_reducible refine Me.i_bl ?_
  | with_reducible refine L2.iteT ?_ | with_reducible refine L2.iteF ?_
  | ((with_reducible refine' ⟨_, _, rfl, Or.inl (L2.SqL.of ?h), ?q⟩); (case h => walk_at "hp"))
  | ((with_reducible refine' ⟨_, _, rfl, Or.inr (L2.SqT.of ?h), ?q⟩); (case h => walk_at "hp"))
  | ((with_reducible refine' Me.i_isi ?t ?e ?q); (case t => walk_at "ty"); (case e => walk_at "kb"))
  | (with_reducible refine Or.inl ⟨_, rfl, ?_⟩)
  | ((with_reducible refine And.intro (a := List.length _ ≤ PySem.sizeLine) ?s (fun _ _ => ?q)); (case s => (simp only [List.length_cons, List.length_nil]; decide))))
local macro_rules | `(tactic| walk_at "ty") => `(tactic| first | exact L2.TyX.base L2.TyOf.non | exact L2.TyX.base (L2.TyOf.bl _) | exact L2.TyX.base (L2.TyOf.int _) | exact L2.TyX.base (L2.TyOf.str _) | ((refine' L2.TyX.base (L2.TyOf.tup ?h)); (case h => walk_at "hp")) | ((refine' L2.TyX.base (L2.TyOf.lst ?h)); (case h => walk_at "hp")) | ((refine' L2.TyX.base (L2.TyOf.dK ?h)); (case h => walk_at "hp")))
local macro_rules | `(tactic| walk_at "go") => `(tactic| repeat (walk_at "go1"))
set_option maxHeartbeats 8000000
namespace Me
open PySem L2
structure Ad where
  C : Addr
  I : DA
  E : DA
  are_same : DA
  _law_start : DA
  _law_pull : DA
  _law_big : DA
  _law_word : DA
  _law_bits : DA
  _law_thing : DA
  _law_fields : DA
  law : DA
structure Txt (K : PySem.W.Frag) (mg : Str → Option Value) (a : Ad) : Prop where
  vd : Vd K mg a.C a.I a.E
  isinstance : mg "isinstance" = none
  int : mg "int" = none
  list : mg "list" = none
  len : mg "len" = none
  range : mg "range" = none
  are_same : Df K mg "are_same" (top 1) ["one", "other"] a.are_same
  _law_start : Df K mg "_law_start" (top 5) ["_law_script"] a._law_start
  _law_pull : Df K mg "_law_pull" (top 6) ["_law_state", "_law_many"] a._law_pull
  _law_big : Df K mg "_law_big" (top 7) ["_law_state", "_law_many"] a._law_big
  _law_word : Df K mg "_law_word" (top 8) ["_law_state", "_law_size"] a._law_word
  _law_bits : Df K mg "_law_bits" (top 9) ["_law_state", "_law_size"] a._law_bits
  _law_thing : Df K mg "_law_thing" (top 10) ["_law_state"] a._law_thing
  _law_fields : Df K mg "_law_fields" (top 11) ["_law_verdict"] a._law_fields
  law : Df K mg "law" (top 12) ["_law_script"] a.law
  I1 : FunD K "__init__" "Verdict.__init__" (defArgs (inClass (top 3) 0)) (defBody (inClass (top 3) 0)) (defScope (inClass (top 3) 0)) [] [] a.I.f a.I.fd
  Ib : Binds K a.I.fd ["self", "refused", "short", "in_step", "stepped", "other"] []
  E1 : FunD K "__eq__" "Verdict.__eq__" (defArgs (inClass (top 3) 1)) (defBody (inClass (top 3) 1)) (defScope (inClass (top 3) 1)) [] [] a.E.f a.E.fd
  Eb : Binds K a.E.fd ["self", "other"] []
  Ik : KBn K a.I.fd ["self", "refused", "short", "in_step", "stepped", "other"] 1 vNames (fun us ws => us ++ ws.reverse) (fun vs zs => vs ++ zs.reverse)
theorem at_ints {ns : List Int} {i : Int} (h0 : 0 ≤ i) (h1 : i < ((ns.map V.int).length : Int)) : ∃ z, atI (ns.map V.int) i = some (V.int z) := by
  obtain ⟨j, rfl⟩ := Int.eq_ofNat_of_zero_le h0
  have hj : j < ns.length := by rw [List.length_map] at h1; omega
  exact ⟨ns[j], atI_nat (by rw [List.getElem?_map, List.getElem?_eq_getElem hj]; rfl)⟩
theorem st_upd {H : Hp} {p L : Addr} {ns : List Int} {i b c : Int} {o : HO} (e : o = .lst [.ref L, .int i, .int b, .int c]) (n : L ≠ p) (hL : H L = some (.lst (ns.map V.int))) (hn : ns.length ≤ 63) (hi : 0 ≤ i) (hb : 0 ≤ b) (hc : 0 ≤ c) (hd : c < 2147483647) : StAt (upd H p o) p L :=
  ⟨ns, i, b, c, by rw [upd_same, e], by rw [upd_ne n]; exact hL, hn, hi, hb, hc, hd⟩
theorem fm {x m : Int} (h : 0 < m) : 0 ≤ x.fmod m ∧ x.fmod m < m := by
  rw [Int.fmod_eq_emod_of_nonneg _ (by omega)]
  exact ⟨Int.emod_nonneg _ (by omega), Int.emod_lt_of_pos _ h⟩
theorem fd {x m : Int} (hx : 0 ≤ x) (h : 0 < m) : 0 ≤ x.fdiv m := by
  rw [Int.fdiv_eq_ediv_of_nonneg _ (by omega)]
  exact Int.ediv_nonneg hx (by omega)
theorem Went.rfl' {p : Addr} {H : Hp} (h : StOk H p) : Went p H H := ⟨h, fun _ _ _ e => e, fun _ e => e⟩
theorem StAt.keep {p L : Addr} {H H' : Hp} (h : StAt H p L) (k : Same H H') : StAt H' p L := by
  obtain ⟨ns, i, b, c, h1, h2, h3⟩ := h
  exact ⟨ns, i, b, c, k _ _ h1, k _ _ h2, h3⟩
theorem StOk.keep {p : Addr} {H H' : Hp} (h : StOk H p) (k : Same H H') : StOk H' p := h.imp fun _ q => q.keep k
theorem Went.new {p q : Addr} {H H' : Hp} {o : HO} (w : Went p H H') (n : H' q = none) : Went p H (upd H' q o) := by
  have k : Same H' (upd H' q o) := fun b u e => by rw [upd_ne (ne_of_none e n)]; exact e
  exact ⟨w.1.keep k, fun a u ne e => k _ _ (w.2.1 a u ne e), fun L e => (w.2.2 L e).keep k⟩
/-- an object that was not there at first is written -/
theorem Went.wr {p q : Addr} {H H' : Hp} {o : HO} (S : StOk H p) (w : Went p H H') (n : H q = none) (nq : q ≠ p) : Went p H (upd H' q o) := by
  obtain ⟨L, hL⟩ := S
  have h' := w.2.2 L hL
  have nL : L ≠ q := by obtain ⟨_, _, _, _, _, e, _⟩ := hL; exact ne_of_none e n
  refine went_mk hL ?_ fun a u ne e => by rw [upd_ne (ne_of_none e n)]; exact w.2.1 a u ne e
  obtain ⟨ns, i, b, c, h1, h2, h3⟩ := h'
  exact ⟨ns, i, b, c, by rw [upd_ne nq.symm]; exact h1, by rw [upd_ne nL]; exact h2, h3⟩
theorem StOk.ne {H : Hp} {p q : Addr} (S : StOk H p) (n : H q = none) : q ≠ p := by
  obtain ⟨L, _, _, _, _, e, _⟩ := S
  exact fun z => by rw [z, e] at n; cases n
theorem Went.none {p q : Addr} {H H' : Hp} (w : Went p H H') (n : H' q = none) (nq : q ≠ p) : H q = none := by
  cases e : H q with
  | none => rfl
  | some o => rw [w.2.1 q o nq e] at n; cases n
theorem at_mem {xs : List V} {i : Int} (h0 : 0 ≤ i) (h1 : i < (xs.length : Int)) : ∃ v, atI xs i = some v ∧ v ∈ xs := by
  obtain ⟨j, rfl⟩ := Int.eq_ofNat_of_zero_le h0
  have hj : j < xs.length := by omega
  exact ⟨xs[j], atI_nat (List.getElem?_eq_getElem hj), List.getElem_mem hj⟩


section
variable {P : Program} {w : World} {K : PySem.W.Frag} {mg : Str → Option Value} {base : Heap} {a : Ad}
def spPull : Sp := fun vs H Q _ => ∃ (p : Addr) (m : Int), vs = [.ref p, .int m] ∧ StOk H p ∧ 0 < m ∧ m < 1073741824 ∧ ∀ (r : Int) (H' : Hp), 0 ≤ r → r < m → Went p H H' → Q (.int r) H'
theorem ok_pull (T : Txt K mg a) : FnOk P w K mg base CX0 1 a._law_pull.f a._law_pull.fd ["_law_state", "_law_many"] spPull := by
  have sc : FnScope ["_law_state", "_law_many", "_law_cell", "_law_number"] ["_law_state", "_law_many"] (defScope (top 6)) := ⟨rfl, rfl, rfl, by decide +kernel, rfl, by decide +kernel, by decide +kernel⟩
  refine T._law_pull.ok sc (fun vs H Q E h => ?_) (fun cdv A outer s H vs Q E hr h => ?_)
  · obtain ⟨p, m, rfl, _⟩ := h
    rfl
  · obtain ⟨p, m, rfl, S, hm0, hm1, k⟩ := h
    have S0 := S
    obtain ⟨L, SL⟩ := S
    obtain ⟨ns, i, b, c, hp, hL, hn, hi, hb, hc0, hc1⟩ := id SL
    refine ⟨_, (pss_cons (ps_if (PW.pt (pw_and (pt_cmpR op_eq (pe_ix ix_list (pv 0) pe_int (fun _ _ => rfl)) pe_int (nomark _)) (pw_and1 (pt_cmpR op_lt (pe_ix ix_list (pv 0) pe_int (fun _ _ => rfl)) (pe_callB call_len_seq (by rfl) T.len PySem.boot_len (pa_cons (pe_ix ix_list (pv 0) pe_int (fun _ _ => rfl)) pa_nil)) (nomark _)))))
      (pss_cons (ps_set (i := 2) sc.nd rfl (by first | exact Or.inl rfl | exact Or.inr rfl) (pe_ix ix_list (pe_ix ix_list (pv 0) pe_int (fun _ _ => rfl)) (pe_ix ix_list (pv 0) pe_int (fun _ _ => rfl)) (fun _ _ => rfl)))
      (pss_cons (ps_asg (pe_op op_add (pe_ix ix_list (pv 0) pe_int (fun _ _ => rfl)) pe_int) (pg_sub (pv 0) pe_int set_list))
      (pss_one (ps_if (pt_cmpR op_ge (pv 2) (pe_op op_pow pe_int pe_int) (nomark _))
      (pss_one (ps_asg (pv 2) (pg_sub (pv 0) pe_int set_list)))
      (pss_one (ps_asg (pe_op op_mod (pe_callTy call_int1 (by rfl) T.int (by decide +kernel) (pa_cons (pe_op op_add (pe_op op_add (pe_op op_mul (pe_ix ix_list (pv 0) pe_int (fun _ _ => rfl)) pe_int) (pe_op op_mod (pe_callTy call_int1 (by rfl) T.int (by decide +kernel) (pa_cons (pv 2) pa_nil)) pe_int)) pe_int) pa_nil)) pe_int) (pg_sub (pv 0) pe_int set_list)))))))
      pss_nil)
      (pss_cons (ps_if (pt_cmpR op_gt (pe_ix ix_list (pv 0) pe_int (fun _ _ => rfl)) pe_int (nomark _))
      (pss_cons (ps_set (i := 3) sc.nd rfl (by first | exact Or.inl rfl | exact Or.inr rfl) (pe_op op_modN (pe_callTy call_int1 (by rfl) T.int (by decide +kernel) (pa_cons (pe_ix ix_list (pv 0) pe_int (fun _ _ => rfl)) pa_nil)) (pv 1)))
      (pss_cons (ps_asg (pe_op op_fdivN (pe_ix ix_list (pv 0) pe_int (fun _ _ => rfl)) (pv 1)) (pg_sub (pv 0) pe_int set_list))
      (pss_one (ps_ret (pv 3)))))
      pss_nil)
      (pss_cons (ps_asg (pe_op op_mod (pe_callTy call_int1 (by rfl) T.int (by decide +kernel) (pa_cons (pe_op op_add (pe_op op_mul (pe_ix ix_list (pv 0) pe_int (fun _ _ => rfl)) pe_int) pe_int) pa_nil)) pe_int) (pg_sub (pv 0) pe_int set_list))
      (pss_cons (ps_set (i := 3) sc.nd rfl (by first | exact Or.inl rfl | exact Or.inr rfl) (pe_op op_mod (pe_callTy call_int1 (by rfl) T.int (by decide +kernel) (pa_cons (pe_op op_add (pe_op op_mul (pe_ix ix_list (pv 0) pe_int (fun _ _ => rfl)) pe_int) (pe_op op_fdiv (pe_ix ix_list (pv 0) pe_int (fun _ _ => rfl)) pe_int)) pa_nil)) pe_int))
      (pss_one (ps_ret (pe_op op_modN (pe_callTy call_int1 (by rfl) T.int (by decide +kernel) (pa_cons (pe_op op_fdiv (pv 3) pe_int) pa_nil)) (pv 1)))))))), ?_⟩
    have nL : L ≠ p := ne_of hL hp (by intro z; injection z with z; cases ns <;> cases z)
    have nL' : p ≠ L := nL.symm
    have hmn : m ≠ 0 ∧ m.natAbs < 1073741824 := ⟨by omega, by omega⟩
    have hmz : m ≠ 0 := hmn.1
    walk_at "go"
    refine i_itei (fun hb0 => ?_) (fun hb0 => ?_)
    · walk_at "go"
      refine i_itd (fun hlt => ?_) (fun hlt => ?_)
      · obtain ⟨z, hz⟩ := at_ints hi hlt
        walk_at "go"
        refine i_ixl hL hz ?_
        walk_at "go"
        have e18 : (10 : Int) ^ Int.toNat 18 = 1000000000000000000 := by decide
        refine i_itd (fun hz => ?_) (fun hz => ?_)
        · rw [e18] at hz
          walk_at "go"
          refine i_itd (fun h1 => ?_) (fun h1 => ?_)
          · walk_at "go"
            refine k _ _ (fm hm0).1 (fm hm0).2 (went_mk SL (st_upd (i := i + 1) (b := z.fdiv m) (c := c) rfl nL (by walk_at "hp") hn (by omega) (Me.fd (by omega) hm0) hc0 hc1) fun a o n h => by simp only [upd_ne n]; exact h)
          · exact absurd (by omega : 0 < z) h1
        · walk_at "go"
          refine i_itd (fun h1 => ?_) (fun h1 => ?_)
          · exact absurd h1 (by omega)
          · walk_at "go"
            refine k _ _ (fm hm0).1 (fm hm0).2 (went_mk SL (st_upd (i := i + 1) (b := b) rfl nL (by walk_at "hp") hn (by omega) hb (by omega) (by omega)) fun a o n h => by simp only [upd_ne n]; exact h)
      · walk_at "go"
        refine i_itd (fun h1 => ?_) (fun h1 => ?_)
        · exact absurd h1 (by omega)
        · walk_at "go"
          refine k _ _ (fm hm0).1 (fm hm0).2 (went_mk SL (st_upd (i := i) (b := b) rfl nL (by walk_at "hp") hn (by omega) hb (by omega) (by omega)) fun a o n h => by simp only [upd_ne n]; exact h)
    · walk_at "go"
      refine i_itd (fun h1 => ?_) (fun h1 => ?_)
      · walk_at "go"
        refine k _ _ (fm hm0).1 (fm hm0).2 (went_mk SL (st_upd (i := i) (b := b.fdiv m) (c := c) rfl nL (by walk_at "hp") hn (by omega) (Me.fd (by omega) hm0) hc0 hc1) fun a o n h => by simp only [upd_ne n]; exact h)
      · exact absurd (by omega : 0 < b) h1
def spStart (K : PySem.W.Frag) : Sp := fun vs H Q _ => ∃ (s : Addr) (ns : List Int), vs = [.ref s] ∧ SqL K H s (ns.map V.int) ∧ ns.length ≤ 63 ∧ ∀ (p : Addr) (H' : Hp), H p = none → StOk H' p → Same H H' → Q (.ref p) H'
theorem ok_start (T : Txt K mg a) : FnOk P w K mg base CX0 1 a._law_start.f a._law_start.fd ["_law_script"] (spStart K) := by
  have sc : FnScope ["_law_script"] ["_law_script"] (defScope (top 5)) := ⟨rfl, rfl, rfl, by decide +kernel, rfl, by decide +kernel, by decide +kernel⟩
  refine T._law_start.ok sc (fun vs H Q E h => ?_) (fun cdv A outer s H vs Q E hr h => ?_)
  · obtain ⟨p, m, rfl, _⟩ := h
    rfl
  · obtain ⟨sa, ns, rfl, hS, hn, k⟩ := h
    refine ⟨_, (pss_one (ps_ret (pe_lst (pa_cons (pe_callTy call_list_of (by rfl) T.list (by decide +kernel) (pa_cons (pv 0) pa_nil)) (pa_cons pe_int (pa_cons pe_int (pa_cons pe_int pa_nil))))))), ?_⟩
    walk_at "go"
    refine ⟨sa, _, rfl, .inl hS, fun L nL => ?_⟩
    walk_at "go"
    rename_i p np
    obtain ⟨npL, npH⟩ := upd_none np
    refine k p _ npH ⟨L, ns, 0, 0, 1234577, upd_same, ?_, hn, by omega, by omega, by omega, by omega⟩ fun b o e => ?_
    · walk_at "hp"
    · rw [upd_ne (ne_of_none e npH), upd_ne (ne_of_none e nL)]; exact e
end
end Me
set_option maxHeartbeats 8000000
namespace Me
open PySem L2


theorem atI_some {α : Type} {xs : List α} {i : Int} (h0 : 0 ≤ i) (h1 : i < (xs.length : Int)) : ∃ v, atI xs i = some v ∧ v ∈ xs := by
  obtain ⟨j, rfl⟩ := Int.eq_ofNat_of_zero_le h0
  have hj : j < xs.length := by omega
  exact ⟨xs[j], atI_nat (List.getElem?_eq_getElem hj), List.getElem_mem hj⟩
theorem i_m1 {r : V → List V → Hp → VK → Prop} {to te : TE} {σ : L2.St} {H : Hp} {Q : VK} (q : to σ H fun x H1 => (∃ a, x = .str a) ∧ te σ H1 fun y H2 => r x [y] H2 Q) : tM1 r to te σ H Q := q
theorem ok_join : ∀ ys : List Str, (∀ y ∈ ys, PyData.strOk y = true) → PyData.strOk (Txt.join "" ys) = true := by
  intro ys h
  have e : PyData.strOk (Txt.join "" ys) = (TL.tl (Str.join "" ys)).all (· < 0x110000) := by
    rw [TL.join_eq]
    unfold PyData.strOk TL.tl
    rw [Array.all_toList]
  rw [e, TL.tl_join]
  have h2 : ∀ y ∈ ys.map TL.tl, y.all (· < 0x110000) = true := by
    intro y hy
    obtain ⟨z, hz, rfl⟩ := List.mem_map.mp hy
    have := h z hz
    unfold PyData.strOk at this
    unfold TL.tl
    rw [Array.all_toList]
    exact this
  generalize ys.map TL.tl = zs at h2
  have key : ∀ zs : List (List Nat), (∀ y ∈ zs, y.all (· < 0x110000) = true) → (TL.joinL [] zs).all (· < 0x110000) = true := by
    intro zs
    induction zs with
    | nil => intro _; rfl
    | cons p r ih =>
      intro h
      cases r with
      | nil => exact h p List.mem_cons_self
      | cons q r =>
        show (p ++ ([] ++ TL.joinL [] (q :: r))).all (· < 0x110000) = true
        rw [List.nil_append, List.all_append, h p List.mem_cons_self, ih fun y hy => h y (List.mem_cons_of_mem _ hy)]
        rfl
  exact key zs h2
theorem sum_ones {ys : List Str} (h : ∀ y ∈ ys, y.length = 1) : (ys.map (·.length)).sum = ys.length := by
  induction ys with
  | nil => rfl
  | cons y r ih =>
    rw [List.map_cons, List.sum_cons, ih fun z hz => h z (List.mem_cons_of_mem _ hz), h y List.mem_cons_self, List.length_cons]
    omega
section
variable {P : Program} {w : World} {K : PySem.W.Frag} {mg : Str → Option Value} {base : Heap} {a : Ad}
def spBig : Sp := fun vs H Q _ => ∃ (p : Addr) (m : Int), vs = [.ref p, .int m] ∧ StOk H p ∧ 0 < m ∧ ∀ (r : Int) (H' : Hp), 0 ≤ r → r < m → Went p H H' → Q (.int r) H'
theorem ok_big (T : Txt K mg a) : FnOk P w K mg base CX0 2 a._law_big.f a._law_big.fd ["_law_state", "_law_many"] spBig := by
  have G__law_pull : FnOk P w K mg base CX0 1 a._law_pull.f a._law_pull.fd ["_law_state", "_law_many"] spPull := ok_pull T
  have sc : FnScope ["_law_state", "_law_many", "_law_number", "_law_k"] ["_law_state", "_law_many"] (defScope (top 7)) := ⟨rfl, rfl, rfl, by decide +kernel, rfl, by decide +kernel, by decide +kernel⟩
  refine T._law_big.ok sc (fun vs H Q E h => ?_) (fun cdv A outer s H vs Q E hr h => ?_)
  · obtain ⟨p, m, rfl, _⟩ := h
    rfl
  · obtain ⟨p, m, rfl, S, hm0, k⟩ := h
    refine ⟨_, (pss_cons (ps_set (i := 2) sc.nd rfl (by first | exact Or.inl rfl | exact Or.inr rfl) pe_int)
      (pss_cons (ps_for PassesOwn.never rfl (pi_range1 rfl T.range (pa_cons pe_int pa_nil)) (pg_name (i := 3) sc.nd rfl (by first | exact Or.inl rfl | exact Or.inr rfl))
      (pss_one (ps_set (i := 2) sc.nd rfl (by first | exact Or.inl rfl | exact Or.inr rfl) (pe_op op_add (pe_op op_mul (pv 2) pe_int) (pe_call G__law_pull (hr.mono (by first | decide | omega)) rfl T._law_pull.mg T._law_pull.kp T._law_pull.b .nil pass0 (pa_cons (pv 0) (pa_cons pe_int pa_nil)))))))
      (pss_one (ps_ret (pe_op op_modN (pe_callTy call_int1 (by rfl) T.int (by decide +kernel) (pa_cons (pv 2) pa_nil)) (pv 1)))))), ?_⟩
    walk_at "go"
    refine ⟨6, rfl, by decide, by decide, for_range (n := 6) (fun _ σ H' => ∃ (n : Int) (v : Option V), σ = [some (.ref p), some (.int m), some (.int n), v] ∧ Went p H H') ⟨0, none, rfl, Went.rfl' S⟩ ?_ ?_⟩
    · rintro i σ H1 hi ⟨n, v, rfl, W1⟩
      walk_at "go"
      refine ⟨p, _, rfl, W1.1, by decide, by decide, fun r H2 h0 h1 W2 => ?_⟩
      walk_at "go"
      exact ⟨_, _, rfl, W1.trans W2⟩
    · rintro σ H1 ⟨n, v, rfl, W1⟩
      have hmz : m ≠ 0 := by omega
      walk_at "go"
      exact k _ _ (fm hm0).1 (fm hm0).2 W1
def spWord : Sp := fun vs H Q _ => ∃ (p : Addr) (n : Int), vs = [.ref p, .int n] ∧ StOk H p ∧ 0 ≤ n ∧ n ≤ 100 ∧ ∀ (z : Str) (H' : Hp), PyData.strOk z = true → Went p H H' → Q (.str z) H'
theorem ok_word (T : Txt K mg a) : FnOk P w K mg base CX0 2 a._law_word.f a._law_word.fd ["_law_state", "_law_size"] spWord := by
  have G__law_pull : FnOk P w K mg base CX0 1 a._law_pull.f a._law_pull.fd ["_law_state", "_law_many"] spPull := ok_pull T
  have sc : FnScope ["_law_state", "_law_size", "_law_letters", "_law_k"] ["_law_state", "_law_size"] (defScope (top 8)) := ⟨rfl, rfl, rfl, by decide +kernel, rfl, by decide +kernel, by decide +kernel⟩
  refine T._law_word.ok sc (fun vs H Q E h => ?_) (fun cdv A outer s H vs Q E hr h => ?_)
  · obtain ⟨p, n, rfl, _⟩ := h
    rfl
  · obtain ⟨p, n, rfl, S, hn0, hn1, k⟩ := h
    refine ⟨_, (pss_cons (ps_set (i := 2) sc.nd rfl (by first | exact Or.inl rfl | exact Or.inr rfl) pe_str)
      (pss_one (ps_ret (pe_join pe_str (pe_lc (own := [("_law_k", 3)]) (g := gName 3) (by rfl) sc.nd (pi_range1 rfl T.range (pa_cons (pv 1) pa_nil)) (blkOk_by (own := [("_law_k", 3)]) (N := ["_law_state", "_law_size", "_law_letters", "_law_k"]) (sc := defScope (top 8)) (by decide +kernel)) (fun _ _ _ _ _ => pg_name (i := 3) sc.nd rfl (Or.inl rfl)) (fun _ _ _ _ _ => pts_nil) (fun _ _ _ _ _ => (by exact (pe_ix ix_str (pv 2) (pe_call G__law_pull (hr.mono (by first | decide | omega)) rfl T._law_pull.mg T._law_pull.kp T._law_pull.b .nil pass0 (pa_cons (pv 0) (pa_cons pe_int pa_nil))) (fun _ _ => rfl))))))))), ?_⟩
    walk_at "go"
    refine i_m1 ?_
    walk_at "go"
    refine ⟨⟨_, rfl⟩, ?_⟩
    refine ⟨_, rfl, n, rfl, by omega, by omega, fun D nD => ?_⟩
    have Dp : D ≠ p := S.ne nD
    refine lc_range (lo := 0) (n := n.toNat) (fun i H3 => ∃ ys : List Str, H3 D = some (.lst (ys.map V.str)) ∧ ys.length = i ∧ (∀ y ∈ ys, y.length = 1 ∧ PyData.strOk y = true) ∧ Went p H H3) ⟨[], upd_same, rfl, by simp, (Went.rfl' S).new nD⟩ ?_ ?_
    · rintro i H3 hi ⟨ys, e1, e2, e3, W3⟩
      refine ⟨rfl, ?_⟩
      dsimp only [tYes]
      rw [if_pos rfl]
      refine ⟨_, rfl, _, rfl, p, _, rfl, W3.1, by decide, by decide, fun r4 H4 q0 q1 W4 => ?_⟩
      have hl : (("abcdefghijklmnopqrstuvwxyz" : Str).cps.toList).length = 26 := by decide
      obtain ⟨c, hc, hm⟩ := atI_some (xs := ("abcdefghijklmnopqrstuvwxyz" : Str).cps.toList) q0 (by rw [hl]; omega)
      have hcs : c < 0x110000 := by
        have : ∀ c ∈ ("abcdefghijklmnopqrstuvwxyz" : Str).cps.toList, c < 0x110000 := by decide
        exact this c hm
      refine ⟨_, r4, c, rfl, rfl, by decide, hc, ys.map V.str, W4.get Dp e1, by rw [List.length_map]; show ys.length < 16777216; omega, ys ++ [⟨#[c]⟩], ?_, ?_, ?_, ?_⟩
      · rw [upd_same]; simp
      · simp [e2]
      · intro y hy
        rcases List.mem_append.mp hy with hy | hy
        · exact e3 y hy
        · rw [List.mem_singleton.mp hy]; exact ⟨rfl, by simp [PyData.strOk]; exact hcs⟩
      · exact Went.wr S (W3.trans W4) nD Dp
    · rintro H3 ⟨ys, e1, e2, e3, W3⟩
      refine ⟨_, D, ys, rfl, rfl, .inl (SqL.of e1), ?_, k _ _ (ok_join ys fun y hy => (e3 y hy).2) W3⟩
      rw [sum_ones fun y hy => (e3 y hy).1]
      show ys.length + ys.length * 0 ≤ 16777216
      omega
theorem ok_bits (T : Txt K mg a) : FnOk P w K mg base CX0 2 a._law_bits.f a._law_bits.fd ["_law_state", "_law_size"] spWord := by
  have G__law_pull : FnOk P w K mg base CX0 1 a._law_pull.f a._law_pull.fd ["_law_state", "_law_many"] spPull := ok_pull T
  have sc : FnScope ["_law_state", "_law_size", "_law_k"] ["_law_state", "_law_size"] (defScope (top 9)) := ⟨rfl, rfl, rfl, by decide +kernel, rfl, by decide +kernel, by decide +kernel⟩
  refine T._law_bits.ok sc (fun vs H Q E h => ?_) (fun cdv A outer s H vs Q E hr h => ?_)
  · obtain ⟨p, n, rfl, _⟩ := h
    rfl
  · obtain ⟨p, n, rfl, S, hn0, hn1, k⟩ := h
    refine ⟨_, (pss_one (ps_ret (pe_join pe_str (pe_lc (own := [("_law_k", 2)]) (g := gName 2) (by rfl) sc.nd (pi_range1 rfl T.range (pa_cons (pv 1) pa_nil)) (blkOk_by (own := [("_law_k", 2)]) (N := ["_law_state", "_law_size", "_law_k"]) (sc := defScope (top 9)) (by decide +kernel)) (fun _ _ _ _ _ => pg_name (i := 2) sc.nd rfl (Or.inl rfl)) (fun _ _ _ _ _ => pts_nil) (fun _ _ _ _ _ => (by exact (pe_ix ix_str pe_str (pe_call G__law_pull (hr.mono (by first | decide | omega)) rfl T._law_pull.mg T._law_pull.kp T._law_pull.b .nil pass0 (pa_cons (pv 0) (pa_cons pe_int pa_nil))) (fun _ _ => rfl)))))))), ?_⟩
    walk_at "go"
    refine i_m1 ?_
    walk_at "go"
    refine ⟨⟨_, rfl⟩, ?_⟩
    refine ⟨_, rfl, n, rfl, by omega, by omega, fun D nD => ?_⟩
    have Dp : D ≠ p := S.ne nD
    refine lc_range (lo := 0) (n := n.toNat) (fun i H3 => ∃ ys : List Str, H3 D = some (.lst (ys.map V.str)) ∧ ys.length = i ∧ (∀ y ∈ ys, y.length = 1 ∧ PyData.strOk y = true) ∧ Went p H H3) ⟨[], upd_same, rfl, by simp, (Went.rfl' S).new nD⟩ ?_ ?_
    · rintro i H3 hi ⟨ys, e1, e2, e3, W3⟩
      refine ⟨rfl, ?_⟩
      dsimp only [tYes]
      rw [if_pos rfl]
      refine ⟨_, rfl, p, _, rfl, W3.1, by decide, by decide, fun r4 H4 q0 q1 W4 => ?_⟩
      have hl : (("01" : Str).cps.toList).length = 2 := by decide
      obtain ⟨c, hc, hm⟩ := atI_some (xs := ("01" : Str).cps.toList) q0 (by rw [hl]; omega)
      have hcs : c < 0x110000 := by
        have : ∀ c ∈ ("01" : Str).cps.toList, c < 0x110000 := by decide
        exact this c hm
      refine ⟨_, r4, c, rfl, rfl, by decide, hc, ys.map V.str, W4.get Dp e1, by rw [List.length_map]; show ys.length < 16777216; omega, ys ++ [⟨#[c]⟩], ?_, ?_, ?_, ?_⟩
      · rw [upd_same]; simp
      · simp [e2]
      · intro y hy
        rcases List.mem_append.mp hy with hy | hy
        · exact e3 y hy
        · rw [List.mem_singleton.mp hy]; exact ⟨rfl, by simp [PyData.strOk]; exact hcs⟩
      · exact Went.wr S (W3.trans W4) nD Dp
    · rintro H3 ⟨ys, e1, e2, e3, W3⟩
      refine ⟨_, D, ys, rfl, rfl, .inl (SqL.of e1), ?_, k _ _ (ok_join ys fun y hy => (e3 y hy).2) W3⟩
      rw [sum_ones fun y hy => (e3 y hy).1]
      show ys.length + ys.length * 0 ≤ 16777216
      omega
def spThing : Sp := fun vs H Q _ => ∃ p, vs = [.ref p] ∧ StOk H p ∧ ∀ v d H', Tg H' v d → Went p H H' → Q v H'
theorem ok_thing (T : Txt K mg a) : FnOk P w K mg base CX0 3 a._law_thing.f a._law_thing.fd ["_law_state"] spThing := by
  have G__law_pull : FnOk P w K mg base CX0 1 a._law_pull.f a._law_pull.fd ["_law_state", "_law_many"] spPull := ok_pull T
  have G__law_big : FnOk P w K mg base CX0 2 a._law_big.f a._law_big.fd ["_law_state", "_law_many"] spBig := ok_big T
  have G__law_word : FnOk P w K mg base CX0 2 a._law_word.f a._law_word.fd ["_law_state", "_law_size"] spWord := ok_word T
  have G__law_bits : FnOk P w K mg base CX0 2 a._law_bits.f a._law_bits.fd ["_law_state", "_law_size"] spWord := ok_bits T
  have sc : FnScope ["_law_state", "_law_turn"] ["_law_state"] (defScope (top 10)) := ⟨rfl, rfl, rfl, by decide +kernel, rfl, by decide +kernel, by decide +kernel⟩
  refine T._law_thing.ok sc (fun vs H Q E h => ?_) (fun cdv A outer s H vs Q E hr h => ?_)
  · obtain ⟨p, rfl, _⟩ := h
    rfl
  · obtain ⟨p, rfl, S, k⟩ := h
    refine ⟨_, (pss_cons (ps_set (i := 1) sc.nd rfl (by first | exact Or.inl rfl | exact Or.inr rfl) (pe_call G__law_pull (hr.mono (by first | decide | omega)) rfl T._law_pull.mg T._law_pull.kp T._law_pull.b .nil pass0 (pa_cons (pv 0) (pa_cons pe_int pa_nil))))
      (pss_cons (ps_if (pt_cmpR op_eq (pv 1) pe_int (nomark _))
      (pss_one (ps_ret pe_non))
      pss_nil)
      (pss_cons (ps_if (pt_cmpR op_eq (pv 1) pe_int (nomark _))
      (pss_one (ps_ret (pe_op op_sub (pe_call G__law_big (hr.mono (by first | decide | omega)) rfl T._law_big.mg T._law_big.kp T._law_big.b .nil pass0 (pa_cons (pv 0) (pa_cons (pe_op op_mul pe_int (pe_op op_pow pe_int pe_int)) pa_nil))) (pe_op op_pow pe_int pe_int))))
      pss_nil)
      (pss_cons (ps_if (pt_cmpR op_eq (pv 1) pe_int (nomark _))
      (pss_one (ps_ret (pe_call G__law_word (hr.mono (by first | decide | omega)) rfl T._law_word.mg T._law_word.kp T._law_word.b .nil pass0 (pa_cons (pv 0) (pa_cons (pe_op op_add pe_int (pe_call G__law_pull (hr.mono (by first | decide | omega)) rfl T._law_pull.mg T._law_pull.kp T._law_pull.b .nil pass0 (pa_cons (pv 0) (pa_cons pe_int pa_nil)))) pa_nil)))))
      pss_nil)
      (pss_cons (ps_if (pt_cmpR op_eq (pv 1) pe_int (nomark _))
      (pss_one (ps_ret (pe_tup (pa_cons (pe_call G__law_bits (hr.mono (by first | decide | omega)) rfl T._law_bits.mg T._law_bits.kp T._law_bits.b .nil pass0 (pa_cons (pv 0) (pa_cons pe_int pa_nil))) (pa_cons (pe_call G__law_bits (hr.mono (by first | decide | omega)) rfl T._law_bits.mg T._law_bits.kp T._law_bits.b .nil pass0 (pa_cons (pv 0) (pa_cons pe_int pa_nil))) pa_nil)))))
      pss_nil)
      (pss_one (ps_ret (pe_call G__law_bits (hr.mono (by first | decide | omega)) rfl T._law_bits.mg T._law_bits.kp T._law_bits.b .nil pass0 (pa_cons (pv 0) (pa_cons (pe_call G__law_pull (hr.mono (by first | decide | omega)) rfl T._law_pull.mg T._law_pull.kp T._law_pull.b .nil pass0 (pa_cons (pv 0) (pa_cons pe_int pa_nil))) pa_nil)))))))))), ?_⟩
    walk_at "go"
    refine ⟨p, _, rfl, S, by decide, by decide, fun r H1 h0 h1 W1 => ?_⟩
    walk_at "go"
    refine i_itei (fun e => ?_) (fun e => ?_)
    · walk_at "go"
      exact k _ _ _ .non W1
    · walk_at "go"
      refine i_itei (fun e => ?_) (fun e => ?_)
      · walk_at "go"
        refine ⟨p, _, rfl, W1.1, by decide, fun r2 H2 _ _ W2 => ?_⟩
        walk_at "go"
        exact k _ _ _ (.int _) (W1.trans W2)
      · walk_at "go"
        refine i_itei (fun e => ?_) (fun e => ?_)
        · walk_at "go"
          refine ⟨p, _, rfl, W1.1, by decide, by decide, fun r2 H2 g0 g1 W2 => ?_⟩
          walk_at "go"
          refine ⟨p, _, rfl, W2.1, by omega, by omega, fun z H3 ok W3 => ?_⟩
          walk_at "go"
          exact k _ _ _ (.str z ok) ((W1.trans W2).trans W3)
        · walk_at "go"
          refine i_itei (fun e => ?_) (fun e => ?_)
          · walk_at "go"
            refine ⟨p, _, rfl, W1.1, by decide, by decide, fun x H2 ox W2 => ?_⟩
            walk_at "go"
            refine ⟨p, _, rfl, W2.1, by decide, by decide, fun y H3 oy W3 => ?_⟩
            walk_at "go"
            rename_i t nt
            have W := (W1.trans W2).trans W3
            exact k _ _ _ (.tup upd_same ox oy) (W.new nt)
          · walk_at "go"
            refine ⟨p, _, rfl, W1.1, by decide, by decide, fun r2 H2 g0 g1 W2 => ?_⟩
            walk_at "go"
            refine ⟨p, _, rfl, W2.1, by omega, by omega, fun z H3 ok W3 => ?_⟩
            walk_at "go"
            exact k _ _ _ (.str z ok) ((W1.trans W2).trans W3)
end
end Me
set_option maxHeartbeats 8000000
namespace Me
open PySem L2


theorem i_yes {c : Bool} {A B : Prop} (h : c = true) (q : A) : if c = true then A else B := by rw [if_pos h]; exact q
theorem i_no {c : Bool} {A B : Prop} (h : c = false) (q : B) : if c = true then A else B := by rw [h, if_neg Bool.false_ne_true]; exact q
theorem i_fld {K : PySem.W.Frag} {ta : TE} {f : Str} {σ : L2.St} {H : Hp} {Q : VK} (q : ta σ H fun x H1 => ∃ a C dx fs v, x = .ref a ∧ H1 a = some (.ins C dx fs) ∧ Cls K C ∧ NoAttr K C f ∧ fs.lookup f = some v ∧ Q v H1) : tFld K ta f σ H Q := q
theorem i_sfld {K : PySem.W.Frag} {ta tv : TE} {f : Str} {D : Ends} {σ : L2.St} {H : Hp} (q : tv σ H fun y H1 => ta σ H1 fun x H2 => ∃ a C dx fs, x = .ref a ∧ H2 a = some (.ins C dx fs) ∧ Cls K C ∧ NoAttr K C f ∧ fs.length < 1000 ∧ D.nx σ (upd H2 a (.ins C dx (putF f y fs)))) : sFld K ta tv f D σ H := q
/-- five values -/
structure V5 where
  a : V
  b : V
  c : V
  d : V
  e : V
structure D5 where
  a : PyData
  b : PyData
  c : PyData
  d : PyData
  e : PyData
def fsV (v : V5) : List (Str × V) := [("refused", v.a), ("short", v.b), ("in_step", v.c), ("stepped", v.d), ("other", v.e)]
def V5.l (v : V5) : List V := [v.a, v.b, v.c, v.d, v.e]
def D5.l (d : D5) : List PyData := [d.a, d.b, d.c, d.d, d.e]
structure G5 (K : PySem.W.Frag) (H : Hp) (v : V5) (z : D5) : Prop where
  ga : Gd K H v.a z.a
  gb : Gd K H v.b z.b
  gc : Gd K H v.c z.c
  gd : Gd K H v.d z.d
  ge : Gd K H v.e z.e
def same5 (d e : D5) : Bool := sameD d.a e.a && (sameD d.b e.b && (sameD d.c e.c && (sameD d.d e.d && sameD d.e e.e)))
section
variable {P : Program} {w : World} {K : PySem.W.Frag} {mg : Str → Option Value} {base : Heap} {a : Ad}
def spSame (K : PySem.W.Frag) : Sp := fun vs H Q _ => ∃ x y d e, vs = [x, y] ∧ Gd K H x d ∧ Gd K H y e ∧ Q (.bl (sameD d e)) H
theorem ok_same (T : Txt K mg a) : FnOk P w K mg base CX0 1 a.are_same.f a.are_same.fd ["one", "other"] (spSame K) := by
  have sc : FnScope ["one", "other"] ["one", "other"] (defScope (top 1)) := ⟨rfl, rfl, rfl, by decide +kernel, rfl, by decide +kernel, by decide +kernel⟩
  refine T.are_same.ok sc (fun vs H Q E h => ?_) (fun cdv A outer s H vs Q E hr h => ?_)
  · obtain ⟨x, y, d, e, rfl, _⟩ := h
    rfl
  · obtain ⟨x, y, d, e, rfl, gx, gy, k⟩ := h
    refine ⟨_, (pss_one (ps_ret (pe_and (pe_cmpR op_eq (pe_clsNm (pv 0)) (pe_clsNm (pv 1)) (nomark _)) (pe_one (pe_cmpR (op_eqD hr.units) (pv 0) (pv 1) (nomark _)))))), ?_⟩
    refine i_ret (i_andV ⟨x, rfl, nmD d, gx.nm, y, rfl, nmD e, gy.nm, rfl, _, rfl, ?_⟩)
    by_cases h : nmD d = nmD e
    · refine i_yes (decide_eq_true (by rw [h])) ?_
      refine ⟨x, rfl, y, rfl, d, e, gx.dp, gy.dp, gx.sh, gy.sh, ?_⟩
      unfold sameD at k
      rw [decide_eq_true h, Bool.true_and] at k
      exact k
    · have h2 : Str.ofString (nmD d) ≠ Str.ofString (nmD e) := fun q => h (by
        have m1 := clsNm_mem gx.nm
        have m2 := clsNm_mem gy.nm
        revert q
        simp only [List.mem_cons, List.not_mem_nil, or_false] at m1 m2
        rcases m1 with m1 | m1 | m1 | m1 <;> rcases m2 with m2 | m2 | m2 | m2 <;> rw [m1, m2] <;> first | (intro _; rfl) | (intro q; exact absurd q (by decide +kernel)))
      refine i_no (decide_eq_false (fun q => h2 (V.str.inj q))) ?_
      unfold sameD at k
      rw [decide_eq_false h, Bool.false_and] at k
      exact k
def Kept (H : Hp) (x : Addr) (H' : Hp) : Prop := ∀ b o, b ≠ x → H b = some o → H' b = some o
theorem Kept.upd {H H' : Hp} {x : Addr} {o : HO} (k : Kept H x H') : Kept H x (upd H' x o) := fun b u n e => by rw [upd_ne n]; exact k b u n e
theorem Kept.rfl' {H : Hp} {x : Addr} : Kept H x H := fun _ _ _ e => e
def spInit (C : Addr) : Sp := fun vs H Q _ => ∃ x dx v1 v2 v3 v4 v5, vs = [.ref x, v1, v2, v3, v4, v5] ∧ H x = some (.ins C dx []) ∧ ∀ H', Kept H x H' → H' x = some (.ins C dx (fsV ⟨v1, v2, v3, v4, v5⟩)) → Q .non H'
theorem ok_init (T : Txt K mg a) : FnOk P w K mg base CX0 1 a.I.f a.I.fd ["self", "refused", "short", "in_step", "stepped", "other"] (spInit a.C) := by
  have sc : FnScope ["self", "refused", "short", "in_step", "stepped", "other"] ["self", "refused", "short", "in_step", "stepped", "other"] (defScope (inClass (top 3) 0)) := ⟨rfl, rfl, rfl, by decide +kernel, rfl, by decide +kernel, by decide +kernel⟩
  refine ok0 T.I1 sc (fun vs H Q E h => ?_) (fun cdv A outer s H vs Q E hr h => ?_)
  · obtain ⟨x, dx, v1, v2, v3, v4, v5, rfl, _⟩ := h
    rfl
  · obtain ⟨x, dx, v1, v2, v3, v4, v5, rfl, hx, k⟩ := h
    have cl := T.vd.cl
    have no := T.vd.no
    refine ⟨_, (pss_cons (ps_fld (pv 0) (pv 1) rfl)
      (pss_cons (ps_fld (pv 0) (pv 2) rfl)
      (pss_cons (ps_fld (pv 0) (pv 3) rfl)
      (pss_cons (ps_fld (pv 0) (pv 4) rfl)
      (pss_one (ps_fld (pv 0) (pv 5) rfl)))))), ?_⟩
    refine i_seq (i_sfld ⟨v1, rfl, .ref x, rfl, x, _, dx, [], rfl, hx, cl, no _ (by decide), by decide, ?_⟩)
    dsimp only
    refine i_seq (i_sfld ⟨v2, rfl, .ref x, rfl, x, _, dx, [("refused", v1)], rfl, upd_same, cl, no _ (by decide), (by show (1 : Nat) < 1000; decide), ?_⟩)
    dsimp only
    refine i_seq (i_sfld ⟨v3, rfl, .ref x, rfl, x, _, dx, [("refused", v1), ("short", v2)], rfl, upd_same, cl, no _ (by decide), (by show (2 : Nat) < 1000; decide), ?_⟩)
    dsimp only
    refine i_seq (i_sfld ⟨v4, rfl, .ref x, rfl, x, _, dx, [("refused", v1), ("short", v2), ("in_step", v3)], rfl, upd_same, cl, no _ (by decide), (by show (3 : Nat) < 1000; decide), ?_⟩)
    dsimp only
    refine i_sfld ⟨v5, rfl, .ref x, rfl, x, _, dx, [("refused", v1), ("short", v2), ("in_step", v3), ("stepped", v4)], rfl, upd_same, cl, no _ (by decide), (by show (4 : Nat) < 1000; decide), ?_⟩
    exact k _ Kept.rfl'.upd.upd.upd.upd.upd upd_same
theorem i_sm {f : Str} {p q dx dy C D : Addr} {fs gs : List (Str × V)} {v u : V} {d e : PyData} {σ : L2.St} {H : Hp} {Q : VK} (h0 : σ[0]? = some (some (.ref p))) (h1 : σ[1]? = some (some (.ref q))) (hp : H p = some (.ins C dx fs)) (hq : H q = some (.ins D dy gs))
    (cl : Cls K C) (cl2 : Cls K D) (no : NoAttr K C f) (no2 : NoAttr K D f) (l1 : fs.lookup f = some v) (l2 : gs.lookup f = some u) (g1 : Gd K H v d) (g2 : Gd K H u e) (k : Q (.bl (sameD d e)) H) :
    tCall (spSame K) [] E0 (tCons (tFld K (tVar 0) f) (tCons (tFld K (tVar 1) f) tNil)) σ H Q :=
  ⟨_, h0, p, C, dx, fs, v, rfl, hp, cl, no, l1, _, h1, q, D, dy, gs, u, rfl, hq, cl2, no2, l2, v, u, d, e, rfl, g1, g2, k⟩
theorem i_stop {c r : Bool} {A : Prop} {R : Bool → Prop} (k : R (c && r)) (n : R r → A) : if c = true then A else R false := by
  cases c
  · exact k
  · exact n k
def spEqV (K : PySem.W.Frag) (C : Addr) : Sp := fun vs H Q _ => ∃ p q dx dy x y d e, vs = [.ref p, .ref q] ∧ H p = some (.ins C dx (fsV x)) ∧ H q = some (.ins C dy (fsV y)) ∧ G5 K H x d ∧ G5 K H y e ∧ Q (.bl (same5 d e)) H
theorem ok_eq (T : Txt K mg a) : FnOk P w K mg base CX0 2 a.E.f a.E.fd ["self", "other"] (spEqV K a.C) := by
  have G_are_same : FnOk P w K mg base CX0 1 a.are_same.f a.are_same.fd ["one", "other"] (spSame K) := ok_same T
  have sc : FnScope ["self", "other"] ["self", "other"] (defScope (inClass (top 3) 1)) := ⟨rfl, rfl, rfl, by decide +kernel, rfl, by decide +kernel, by decide +kernel⟩
  refine ok0 T.E1 sc (fun vs H Q E h => ?_) (fun cdv A outer s H vs Q E hr h => ?_)
  · obtain ⟨p, q, dx, dy, x, y, d, e, rfl, _⟩ := h
    rfl
  · obtain ⟨p, q, dx, dy, x, y, d, e, rfl, hp, hq, gx, gy, k⟩ := h
    have cl := T.vd.cl
    have no := T.vd.no
    refine ⟨_, (pss_one (ps_ret (pe_and (pe_callB call_isi (by rfl) T.isinstance (by decide +kernel) (pa_cons (pv 1) (pa_cons (pe_glob (v := .ref a.C) rfl T.vd.gl rfl) pa_nil))) (pe_and (pe_call G_are_same (hr.mono (by first | decide | omega)) rfl T.are_same.mg T.are_same.kp T.are_same.b .nil pass0 (pa_cons (pe_fld (pv 0) rfl) (pa_cons (pe_fld (pv 1) rfl) pa_nil))) (pe_and (pe_call G_are_same (hr.mono (by first | decide | omega)) rfl T.are_same.mg T.are_same.kp T.are_same.b .nil pass0 (pa_cons (pe_fld (pv 0) rfl) (pa_cons (pe_fld (pv 1) rfl) pa_nil))) (pe_and (pe_call G_are_same (hr.mono (by first | decide | omega)) rfl T.are_same.mg T.are_same.kp T.are_same.b .nil pass0 (pa_cons (pe_fld (pv 0) rfl) (pa_cons (pe_fld (pv 1) rfl) pa_nil))) (pe_and (pe_call G_are_same (hr.mono (by first | decide | omega)) rfl T.are_same.mg T.are_same.kp T.are_same.b .nil pass0 (pa_cons (pe_fld (pv 0) rfl) (pa_cons (pe_fld (pv 1) rfl) pa_nil))) (pe_one (pe_call G_are_same (hr.mono (by first | decide | omega)) rfl T.are_same.mg T.are_same.kp T.are_same.b .nil pass0 (pa_cons (pe_fld (pv 0) rfl) (pa_cons (pe_fld (pv 1) rfl) pa_nil))))))))))), ?_⟩
    refine i_ret (i_andV ⟨_, rfl, _, _, _, _, _, rfl, .own _, T.vd.ty hq, T.vd.kt, _, rfl, i_yes rfl ?_⟩)
    refine i_andV (i_sm rfl rfl hp hq cl cl (no _ (by decide)) (no _ (by decide)) rfl rfl gx.ga gy.ga ⟨_, rfl, i_stop (R := fun r => Q (.bl r) H) k fun k => ?_⟩)
    refine i_andV (i_sm rfl rfl hp hq cl cl (no _ (by decide)) (no _ (by decide)) rfl rfl gx.gb gy.gb ⟨_, rfl, i_stop (R := fun r => Q (.bl r) H) k fun k => ?_⟩)
    refine i_andV (i_sm rfl rfl hp hq cl cl (no _ (by decide)) (no _ (by decide)) rfl rfl gx.gc gy.gc ⟨_, rfl, i_stop (R := fun r => Q (.bl r) H) k fun k => ?_⟩)
    refine i_andV (i_sm rfl rfl hp hq cl cl (no _ (by decide)) (no _ (by decide)) rfl rfl gx.gd gy.gd ⟨_, rfl, i_stop (R := fun r => Q (.bl r) H) k fun k => ?_⟩)
    exact i_sm rfl rfl hp hq cl cl (no _ (by decide)) (no _ (by decide)) rfl rfl gx.ge gy.ge k
def spFields (C : Addr) : Sp := fun vs H Q _ => ∃ p dx x, vs = [.ref p] ∧ H p = some (.ins C dx (fsV x)) ∧ ∀ D, H D = none → Q (.ref D) (upd H D (.lst x.l))
theorem ok_fields (T : Txt K mg a) : FnOk P w K mg base CX0 1 a._law_fields.f a._law_fields.fd ["_law_verdict"] (spFields a.C) := by
  have sc : FnScope ["_law_verdict"] ["_law_verdict"] (defScope (top 11)) := ⟨rfl, rfl, rfl, by decide +kernel, rfl, by decide +kernel, by decide +kernel⟩
  refine T._law_fields.ok sc (fun vs H Q E h => ?_) (fun cdv A outer s H vs Q E hr h => ?_)
  · obtain ⟨p, dx, x, rfl, _⟩ := h
    rfl
  · obtain ⟨p, dx, x, rfl, hp, k⟩ := h
    have cl := T.vd.cl
    have no := T.vd.no
    refine ⟨_, (pss_one (ps_ret (pe_lst (pa_cons (pe_fld (pv 0) rfl) (pa_cons (pe_fld (pv 0) rfl) (pa_cons (pe_fld (pv 0) rfl) (pa_cons (pe_fld (pv 0) rfl) (pa_cons (pe_fld (pv 0) rfl) pa_nil)))))))), ?_⟩
    refine i_ret (i_lst ?_)
    refine i_cons ⟨_, rfl, p, _, _, _, _, rfl, hp, cl, no _ (by decide), rfl, ?_⟩
    refine i_cons ⟨_, rfl, p, _, _, _, _, rfl, hp, cl, no _ (by decide), rfl, ?_⟩
    refine i_cons ⟨_, rfl, p, _, _, _, _, rfl, hp, cl, no _ (by decide), rfl, ?_⟩
    refine i_cons ⟨_, rfl, p, _, _, _, _, rfl, hp, cl, no _ (by decide), rfl, ?_⟩
    refine i_cons ⟨_, rfl, p, _, _, _, _, rfl, hp, cl, no _ (by decide), rfl, ?_⟩
    refine i_nil ⟨(by show 5 ≤ sizeLine; decide), fun D nD => k D nD⟩
end
end Me
set_option maxHeartbeats 8000000
namespace Me
open PySem L2


structure T5 (H : Hp) (v : V5) (z : D5) : Prop where
  ta : Tg H v.a z.a
  tb : Tg H v.b z.b
  tc : Tg H v.c z.c
  td : Tg H v.d z.d
  te : Tg H v.e z.e
theorem T5.same {H H' : Hp} {v : V5} {z : D5} (h : T5 H v z) (s : Same H H') : T5 H' v z := ⟨h.ta.same s, h.tb.same s, h.tc.same s, h.td.same s, h.te.same s⟩
theorem T5.went {p : Addr} {H H' : Hp} {v : V5} {z : D5} (S : StOk H p) (h : T5 H v z) (w : Went p H H') : T5 H' v z := ⟨h.ta.went S w, h.tb.went S w, h.tc.went S w, h.td.went S w, h.te.went S w⟩
theorem T5.g5 {K : PySem.W.Frag} {H : Hp} {v : V5} {z : D5} (h : T5 H v z) : G5 K H v z := ⟨h.ta.gd, h.tb.gd, h.tc.gd, h.td.gd, h.te.gd⟩
theorem T5.dp {K : PySem.W.Frag} {H : Hp} {v : V5} {z : D5} {D : Addr} (h : T5 H v z) (e : H D = some (.lst v.l)) : Dp K H (.ref D) (.list z.l) :=
  .lst (SqL.of e) (.cons h.ta.gd.dp (.cons h.tb.gd.dp (.cons h.tc.gd.dp (.cons h.td.gd.dp (.cons h.te.gd.dp .nil)))))
theorem Tg.lay {H : Hp} {v : V} {d : PyData} (h : Tg H v d) : d.canLay0 = true ∧ d.depth ≤ 10 := by
  cases h with
  | non => exact ⟨rfl, by decide⟩
  | int i => exact ⟨rfl, by show (0 : Nat) ≤ 10; decide⟩
  | str z ok => exact ⟨by simp [PyData.canLay0, ok], by simp [PyData.depth]⟩
  | tup h ox oy => exact ⟨by simp [PyData.canLay0, PyData.canLayAll0, ox, oy], by simp [PyData.depth, PyData.depthAll]⟩
theorem T5.sh {H : Hp} {v : V5} {z : D5} (h : T5 H v z) : SeqAt.shaped (.list z.l) = true := by
  obtain ⟨a1, a2⟩ := h.ta.lay
  obtain ⟨b1, b2⟩ := h.tb.lay
  obtain ⟨c1, c2⟩ := h.tc.lay
  obtain ⟨d1, d2⟩ := h.td.lay
  obtain ⟨e1, e2⟩ := h.te.lay
  unfold SeqAt.shaped D5.l
  rw [show PyData.canLay0 (.list [z.a, z.b, z.c, z.d, z.e]) = true from by simp [PyData.canLay0, PyData.canLayAll0, a1, b1, c1, d1, e1], Bool.true_and]
  refine decide_eq_true ?_
  simp only [PyData.depth, PyData.depthAll]
  omega
theorem T5.self {H : Hp} {v : V5} {z : D5} (h : T5 H v z) : same5 z z = true ∧ PyData.eqv (.list z.l) (.list z.l) = true := by
  constructor
  · unfold same5; rw [h.ta.self.1, h.tb.self.1, h.tc.self.1, h.td.self.1, h.te.self.1]; rfl
  · simp only [PyData.eqv, D5.l, PyData.eqvAll]; rw [h.ta.self.2, h.tb.self.2, h.tc.self.2, h.td.self.2, h.te.self.2]; rfl
theorem T5.two {H H' : Hp} {v w : V5} {y z : D5} (h : T5 H v y) (h' : T5 H' w z) : same5 y z = PyData.eqv (.list y.l) (.list z.l) := by
  unfold same5
  simp only [PyData.eqv, D5.l, PyData.eqvAll]
  rw [h.ta.two h'.ta, h.tb.two h'.tb, h.tc.two h'.tc, h.td.two h'.td, h.te.two h'.te, Bool.and_true]
theorem mk_keep {H H3 : Hp} {x dx : Addr} {o1 o2 : HO} (nx : H x = none) (nd : H dx = none) (k : Kept (upd (upd H dx o1) x o2) x H3) : Same H H3 := fun b o e => k b o (ne_of_none e nx) (by rw [upd_ne (ne_of_none e nx), upd_ne (ne_of_none e nd)]; exact e)
section
variable {P : Program} {w : World} {K : PySem.W.Frag} {mg : Str → Option Value} {base : Heap} {a : Ad}
theorem lc_things {p : Addr} {σ : L2.St} {H : Hp} {Q : VK} (e1 : ∀ x, (σ.set 4 x)[1]? = some (some (.ref p))) (e2 : ∀ x, wipe (σ.set 4 x) [4] = wipe σ [4]) (ew : wipe σ [4] = σ.set 4 none) (S : StOk H p) (k : ∀ D v z H', H D = none → H' D = some (.lst v.l) → T5 H' v z → Went p H H' → Q (.ref D) H') :
    tLc (iRng1 (tCons (tC (.int 5)) tNil)) (gName 4) tYes (tCall spThing [] E0 (tCons (tVar 1) tNil)) [4] σ H Q := by
  refine ⟨5, rfl, by decide, by decide, fun D nD => ?_⟩
  have Dp : D ≠ p := S.ne nD
  refine lc_range (lo := 0) (n := 5) (fun i H3 => ∃ l : List (V × PyData), H3 D = some (.lst (l.map (·.1))) ∧ l.length = i ∧ (∀ q ∈ l, Tg H3 q.1 q.2) ∧ Went p H H3) ⟨[], upd_same, rfl, (by simp), (Went.rfl' S).new nD⟩ ?_ ?_
  · rintro i H3 hi ⟨l, h1, h2, h3, W3⟩
    refine ⟨?_, ?_⟩
    · rw [ew, List.set_set]; rw [e2]; exact ew
    dsimp only [tYes]
    rw [if_pos rfl]
    refine ⟨_, by rw [ew, List.set_set]; exact e1 _, p, rfl, W3.1, fun v d H4 tg W4 => ?_⟩
    refine ⟨l.map (·.1), W4.get Dp h1, by rw [List.length_map]; show l.length < 16777216; omega, l ++ [(v, d)], ?_, ?_, ?_, ?_⟩
    · rw [upd_same]; simp
    · simp [h2]
    · intro q hq
      have sm : ∀ u e, Tg H4 u e → Tg (upd H4 D (.lst (l.map (·.1) ++ [v]))) u e := fun u e t => by
        cases t with
        | non => exact .non
        | int i => exact .int i
        | str z ok => exact .str z ok
        | tup h ox oy =>
          refine .tup (by rw [upd_ne]; exact h; intro z; have := W4.get Dp h1; rw [← z, h] at this; cases this) ox oy
      rcases List.mem_append.mp hq with hq | hq
      · exact sm _ _ ((h3 q hq).went W3.1 W4)
      · rw [List.mem_singleton.mp hq]; exact sm _ _ tg
    · exact Went.wr S (W3.trans W4) nD Dp
  · rintro H3 ⟨l, h1, h2, h3, W3⟩
    match l, h2 with
    | [q1, q2, q3, q4, q5], _ =>
      refine k D ⟨q1.1, q2.1, q3.1, q4.1, q5.1⟩ ⟨q1.2, q2.2, q3.2, q4.2, q5.2⟩ H3 nD h1 ⟨h3 _ (by simp), h3 _ (by simp), h3 _ (by simp), h3 _ (by simp), h3 _ (by simp)⟩ W3
end
end Me
set_option maxHeartbeats 8000000
namespace Me
open PySem L2


section
variable {P : Program} {w : World} {K : PySem.W.Frag} {mg : Str → Option Value} {base : Heap} {a : Ad}
theorem nf_self {C : Addr} : PySem.W.notFirst K C (.ref C) = true := by simp [PySem.W.notFirst]
/-- one == other by the text's own == -/
theorem i_own {neg : Bool} {C f p q dx dy : Addr} {x y : V5} {d e : D5} {H : Hp} {Q : VK} (hp : H p = some (.ins C dx (fsV x))) (hq : H q = some (.ins C dy (fsV y))) (gx : G5 K H x d) (gy : G5 K H y e) (k : Q (.bl (same5 d e != neg)) H) :
    rOwn K neg C f (spEqV K C) E0 (.ref p) (.ref q) H Q := ⟨p, q, C, dx, dy, _, _, rfl, rfl, hp, hq, nf_self, p, q, dx, dy, x, y, d, e, rfl, hp, hq, gx, gy, _, rfl, k⟩
def tIx (K : PySem.W.Frag) (j : Nat) (i : Int) : TE := tOp (rIxL K) (tVar j) (tC (.int i))
theorem i_tix {j : Nat} {i : Int} {D : Addr} {xs : List V} {v : V} {σ : L2.St} {H : Hp} {Q : VK} (h0 : σ[j]? = some (some (.ref D))) (hD : H D = some (.lst xs)) (e : atI xs i = some v) (q : Q v H) : tIx K j i σ H Q :=
  (show ∃ v', σ[j]? = some (some v') ∧ rIxL K v' (.int i) H Q from ⟨_, h0, i_ixl hD e q⟩)
theorem i_mk {j : Nat} {D C : Addr} {v : V5} {σ : L2.St} {H : Hp} {Q : VK} (h0 : σ[j]? = some (some (.ref D))) (hD : H D = some (.lst v.l)) (k : ∀ x dx H4, H x = none → Same H H4 → H4 x = some (.ins C dx (fsV v)) → Q (.ref x) H4) :
    tMake C (spInit C) [] E0 (tCons (tIx K j 0) (tCons (tIx K j 1) (tCons (tIx K j 2) (tCons (tIx K j 3) (tCons (tIx K j 4) tNil))))) σ H Q := by
  refine i_cons (i_tix h0 hD (v := v.a) rfl (i_cons (i_tix h0 hD (v := v.b) rfl (i_cons (i_tix h0 hD (v := v.c) rfl (i_cons (i_tix h0 hD (v := v.d) rfl (i_cons (i_tix h0 hD (v := v.e) rfl (i_nil ?_))))))))))
  intro x dx nx nd ne
  exact ⟨x, dx, _, _, _, _, _, rfl, upd_same, fun H4 k4 e4 => ⟨rfl, k x dx H4 nx (mk_keep nx nd k4) e4⟩⟩
theorem i_mkK {j : Nat} {D C : Addr} {v : V5} {σ : L2.St} {H : Hp} {Q : VK} (h0 : σ[j]? = some (some (.ref D))) (hD : H D = some (.lst v.l)) (k : ∀ x dx H4, H x = none → Same H H4 → H4 x = some (.ins C dx (fsV v)) → Q (.ref x) H4) :
    tMakeK C 0 vNames.length (spInit C) (fun vs zs => vs ++ zs.reverse) E0 tNil (tCons (tIx K j 4) (tCons (tIx K j 3) (tCons (tIx K j 2) (tCons (tIx K j 1) (tCons (tIx K j 0) tNil))))) σ H Q := by
  refine i_nil (i_cons (i_tix h0 hD (v := v.e) rfl (i_cons (i_tix h0 hD (v := v.d) rfl (i_cons (i_tix h0 hD (v := v.c) rfl (i_cons (i_tix h0 hD (v := v.b) rfl (i_cons (i_tix h0 hD (v := v.a) rfl (i_nil ⟨rfl, rfl, ?_⟩)))))))))))
  intro x dx nx nd ne
  exact ⟨x, dx, _, _, _, _, _, rfl, upd_same, fun H4 k4 e4 => ⟨rfl, k x dx H4 nx (mk_keep nx nd k4) e4⟩⟩
theorem i_neq {v : V5} {z : D5} {F D : Addr} {H : Hp} {Q : VK} (t : T5 H v z) (hF : H F = some (.lst v.l)) (hD : H D = some (.lst v.l)) (q : Q (.bl false) H) : rNeD K (.ref F) (.ref D) H Q :=
  ⟨_, _, t.dp hF, t.dp hD, t.sh, t.sh, by rw [t.self.2]; exact q⟩
theorem i_eqD {v w : V5} {y z : D5} {F D : Addr} {H : Hp} {Q : VK} (t : T5 H v y) (t' : T5 H w z) (hF : H F = some (.lst v.l)) (hD : H D = some (.lst w.l)) (q : Q (.bl (same5 y z)) H) : rEqD K (.ref F) (.ref D) H Q :=
  ⟨_, _, t.dp hF, t'.dp hD, t.sh, t'.sh, by rw [← t.two t']; exact q⟩
theorem same_new {H H1 : Hp} {q : Addr} {o : HO} (s : Same H H1) (n : H1 q = none) : Same H (upd H1 q o) := fun b u e => by rw [upd_ne (ne_of_none (s _ _ e) n)]; exact s _ _ e
theorem sm1 {H : Hp} {q : Addr} {o : HO} (n : H q = none) : Same H (upd H q o) := same_new (fun _ _ e => e) n
theorem pick {H : Hp} {v : V5} {z : D5} {r : Int} (t : T5 H v z) (r0 : 0 ≤ r) (r1 : r < 5) : ∃ (u : V) (d : PyData) (i : Nat) (fv : V → V5) (fz : PyData → D5), atI v.l r = some u ∧ Tg H u d ∧ ixN v.l.length r = some i ∧ (∀ w, (fv w).l = v.l.set i w) ∧
    (∀ (K : PySem.W.Frag) (H' : Hp) (w : V) (e : PyData), G5 K H' v z → Gd K H' w e → G5 K H' (fv w) (fz e)) ∧ same5 (fz (.tuple [d])) z = false ∧ same5 z (fz (.tuple [d])) = false := by
  have c : r = 0 ∨ r = 1 ∨ r = 2 ∨ r = 3 ∨ r = 4 := by omega
  rcases c with rfl | rfl | rfl | rfl | rfl
  · refine ⟨v.a, z.a, 0, fun w => { v with a := w }, fun e => { z with a := e }, rfl, t.ta, rfl, fun _ => rfl, fun K H' w e g ge => ⟨ge, g.gb, g.gc, g.gd, g.ge⟩, ?_, ?_⟩
    · simp only [same5]; rw [t.ta.bent.2]; simp
    · simp only [same5]; rw [t.ta.bent.1]; simp
  · refine ⟨v.b, z.b, 1, fun w => { v with b := w }, fun e => { z with b := e }, rfl, t.tb, rfl, fun _ => rfl, fun K H' w e g ge => ⟨g.ga, ge, g.gc, g.gd, g.ge⟩, ?_, ?_⟩
    · simp only [same5]; rw [t.tb.bent.2]; simp
    · simp only [same5]; rw [t.tb.bent.1]; simp
  · refine ⟨v.c, z.c, 2, fun w => { v with c := w }, fun e => { z with c := e }, rfl, t.tc, rfl, fun _ => rfl, fun K H' w e g ge => ⟨g.ga, g.gb, ge, g.gd, g.ge⟩, ?_, ?_⟩
    · simp only [same5]; rw [t.tc.bent.2]; simp
    · simp only [same5]; rw [t.tc.bent.1]; simp
  · refine ⟨v.d, z.d, 3, fun w => { v with d := w }, fun e => { z with d := e }, rfl, t.td, rfl, fun _ => rfl, fun K H' w e g ge => ⟨g.ga, g.gb, g.gc, ge, g.ge⟩, ?_, ?_⟩
    · simp only [same5]; rw [t.td.bent.2]; simp
    · simp only [same5]; rw [t.td.bent.1]; simp
  · refine ⟨v.e, z.e, 4, fun w => { v with e := w }, fun e => { z with e := e }, rfl, t.te, rfl, fun _ => rfl, fun K H' w e g ge => ⟨g.ga, g.gb, g.gc, g.gd, ge⟩, ?_, ?_⟩
    · simp only [same5]; rw [t.te.bent.2]; simp
    · simp only [same5]; rw [t.te.bent.1]; simp
def spLaw (K : PySem.W.Frag) : Sp := fun vs H Q _ => ∃ (s : Addr) (ns : List Int), vs = [.ref s] ∧ SqL K H s (ns.map V.int) ∧ ns.length ≤ 63 ∧ ∀ H', Q (.bl true) H'
theorem ok_law (T : Txt K mg a) : FnOk P w K mg base CX0 9 a.law.f a.law.fd ["_law_script"] (spLaw K) := by
  have G__law_start : FnOk P w K mg base CX0 1 a._law_start.f a._law_start.fd ["_law_script"] (spStart K) := ok_start T
  have G__law_pull : FnOk P w K mg base CX0 1 a._law_pull.f a._law_pull.fd ["_law_state", "_law_many"] spPull := ok_pull T
  have G__law_thing : FnOk P w K mg base CX0 3 a._law_thing.f a._law_thing.fd ["_law_state"] spThing := ok_thing T
  have G__law_fields : FnOk P w K mg base CX0 1 a._law_fields.f a._law_fields.fd ["_law_verdict"] (spFields a.C) := ok_fields T
  have GI : FnOk P w K mg base CX0 1 a.I.f a.I.fd ["self", "refused", "short", "in_step", "stepped", "other"] (spInit a.C) := ok_init T
  have GE : FnOk P w K mg base CX0 2 a.E.f a.E.fd ["self", "other"] (spEqV K a.C) := ok_eq T
  have sc : FnScope ["_law_script", "_law_state", "_law_at", "_law_things", "_law_k", "_law_one", "_law_same", "_law_bent", "_law_unlike", "_law_rest", "_law_drawn"] ["_law_script"] (defScope (top 12)) := ⟨rfl, rfl, rfl, by decide +kernel, rfl, by decide +kernel, by decide +kernel⟩
  refine T.law.ok sc (fun vs H Q E h => ?_) (fun cdv A outer s H vs Q E hr h => ?_)
  · obtain ⟨p, _, rfl, _⟩ := h
    rfl
  · obtain ⟨sa, ns, rfl, hS, hn, k⟩ := h
    refine ⟨_, (pss_cons (ps_set (i := 1) sc.nd rfl (by first | exact Or.inl rfl | exact Or.inr rfl) (pe_call G__law_start (hr.mono (by first | decide | omega)) rfl T._law_start.mg T._law_start.kp T._law_start.b .nil pass0 (pa_cons (pv 0) pa_nil)))
      (pss_cons (ps_set (i := 2) sc.nd rfl (by first | exact Or.inl rfl | exact Or.inr rfl) (pe_call G__law_pull (hr.mono (by first | decide | omega)) rfl T._law_pull.mg T._law_pull.kp T._law_pull.b .nil pass0 (pa_cons (pv 1) (pa_cons pe_int pa_nil))))
      (pss_cons (ps_setLc (i := 3) (own := [("_law_k", 4)]) (g := gName 4) (by rfl) sc.nd rfl rfl (sw_true rfl rfl rfl (by decide +kernel)) (pi_range1 rfl T.range (pa_cons pe_int pa_nil)) (blkOk_by (own := [("_law_k", 4)]) (N := ["_law_script", "_law_state", "_law_at", "_law_things", "_law_k", "_law_one", "_law_same", "_law_bent", "_law_unlike", "_law_rest", "_law_drawn"]) (sc := defScope (top 12)) (by decide +kernel)) (fun _ _ _ _ _ => pg_name (i := 4) sc.nd rfl (Or.inl rfl)) (fun _ _ _ _ _ => pts_nil) (fun _ _ _ _ _ => (pe_call G__law_thing (hr.mono (by first | decide | omega)) rfl T._law_thing.mg T._law_thing.kp T._law_thing.b .nil pass0 (pa_cons (pv 1) pa_nil))))
      (pss_cons (ps_set (i := 5) sc.nd rfl (by first | exact Or.inl rfl | exact Or.inr rfl) (pe_make T.vd.mkI GI (hr.mono (by decide)) rfl T.vd.gl T.Ib .nil pass0 (pa_cons (pe_ix ix_list (pv 3) pe_int (fun _ _ => rfl)) (pa_cons (pe_ix ix_list (pv 3) pe_int (fun _ _ => rfl)) (pa_cons (pe_ix ix_list (pv 3) pe_int (fun _ _ => rfl)) (pa_cons (pe_ix ix_list (pv 3) pe_int (fun _ _ => rfl)) (pa_cons (pe_ix ix_list (pv 3) pe_int (fun _ _ => rfl)) pa_nil)))))))
      (pss_cons (ps_set (i := 6) sc.nd rfl (by first | exact Or.inl rfl | exact Or.inr rfl) (pe_makeK0 T.vd.mkI GI (hr.mono (by decide)) rfl T.vd.gl T.Ik pass0 (pk_cons (pe_ix ix_list (pv 3) pe_int (fun _ _ => rfl)) (pk_cons (pe_ix ix_list (pv 3) pe_int (fun _ _ => rfl)) (pk_cons (pe_ix ix_list (pv 3) pe_int (fun _ _ => rfl)) (pk_cons (pe_ix ix_list (pv 3) pe_int (fun _ _ => rfl)) (pk_cons (pe_ix ix_list (pv 3) pe_int (fun _ _ => rfl)) pk_nil)))))))
      (pss_cons (ps_if (PW.pt (pw_or (pt_cmpR (op_neD hr.units) (pe_call G__law_fields (hr.mono (by first | decide | omega)) rfl T._law_fields.mg T._law_fields.kp T._law_fields.b .nil pass0 (pa_cons (pv 5) pa_nil)) (pv 3) (nomark _)) (pw_or1 (pt_cmpR (op_neD hr.units) (pe_call G__law_fields (hr.mono (by first | decide | omega)) rfl T._law_fields.mg T._law_fields.kp T._law_fields.b .nil pass0 (pa_cons (pv 6) pa_nil)) (pv 3) (nomark _)))))
      (pss_one (ps_ret pe_bl))
      pss_nil)
      (pss_cons (ps_if (PW.pt (pw_or (pt_not (pt_cmpR (op_own T.vd.own GE T.Eb pass0 (hr.mono (by decide))) (pv 5) (pv 6) (nomark _))) (pw_or (pt_cmpR (op_ownNe T.vd.own GE T.Eb pass0 (hr.mono (by decide))) (pv 5) (pv 6) (nomark _)) (pw_or1 (pt_not (pt_cmpR (op_own T.vd.own GE T.Eb pass0 (hr.mono (by decide))) (pv 6) (pv 5) (nomark _)))))))
      (pss_one (ps_ret pe_bl))
      pss_nil)
      (pss_cons (ps_set (i := 7) sc.nd rfl (by first | exact Or.inl rfl | exact Or.inr rfl) (pe_callTy call_list_of (by rfl) T.list (by decide +kernel) (pa_cons (pv 3) pa_nil)))
      (pss_cons (ps_asg (pe_tup (pa_cons (pe_ix ix_list (pv 3) (pv 2) (fun _ _ => rfl)) pa_nil)) (pg_sub (pv 7) (pv 2) set_list))
      (pss_cons (ps_set (i := 8) sc.nd rfl (by first | exact Or.inl rfl | exact Or.inr rfl) (pe_make T.vd.mkI GI (hr.mono (by decide)) rfl T.vd.gl T.Ib .nil pass0 (pa_cons (pe_ix ix_list (pv 7) pe_int (fun _ _ => rfl)) (pa_cons (pe_ix ix_list (pv 7) pe_int (fun _ _ => rfl)) (pa_cons (pe_ix ix_list (pv 7) pe_int (fun _ _ => rfl)) (pa_cons (pe_ix ix_list (pv 7) pe_int (fun _ _ => rfl)) (pa_cons (pe_ix ix_list (pv 7) pe_int (fun _ _ => rfl)) pa_nil)))))))
      (pss_cons (ps_if (PW.pt (pw_or (pt_cmpR (op_own T.vd.own GE T.Eb pass0 (hr.mono (by decide))) (pv 8) (pv 5) (nomark _)) (pw_or (pt_cmpR (op_own T.vd.own GE T.Eb pass0 (hr.mono (by decide))) (pv 5) (pv 8) (nomark _)) (pw_or1 (pt_not (pt_cmpR (op_ownNe T.vd.own GE T.Eb pass0 (hr.mono (by decide))) (pv 5) (pv 8) (nomark _)))))))
      (pss_one (ps_ret pe_bl))
      pss_nil)
      (pss_cons (ps_setLc (i := 9) (own := [("_law_k", 4)]) (g := gName 4) (by rfl) sc.nd rfl rfl (sw_true rfl rfl rfl (by decide +kernel)) (pi_range1 rfl T.range (pa_cons pe_int pa_nil)) (blkOk_by (own := [("_law_k", 4)]) (N := ["_law_script", "_law_state", "_law_at", "_law_things", "_law_k", "_law_one", "_law_same", "_law_bent", "_law_unlike", "_law_rest", "_law_drawn"]) (sc := defScope (top 12)) (by decide +kernel)) (fun _ _ _ _ _ => pg_name (i := 4) sc.nd rfl (Or.inl rfl)) (fun _ _ _ _ _ => pts_nil) (fun _ _ _ _ _ => (pe_call G__law_thing (hr.mono (by first | decide | omega)) rfl T._law_thing.mg T._law_thing.kp T._law_thing.b .nil pass0 (pa_cons (pv 1) pa_nil))))
      (pss_cons (ps_set (i := 10) sc.nd rfl (by first | exact Or.inl rfl | exact Or.inr rfl) (pe_make T.vd.mkI GI (hr.mono (by decide)) rfl T.vd.gl T.Ib .nil pass0 (pa_cons (pe_ix ix_list (pv 9) pe_int (fun _ _ => rfl)) (pa_cons (pe_ix ix_list (pv 9) pe_int (fun _ _ => rfl)) (pa_cons (pe_ix ix_list (pv 9) pe_int (fun _ _ => rfl)) (pa_cons (pe_ix ix_list (pv 9) pe_int (fun _ _ => rfl)) (pa_cons (pe_ix ix_list (pv 9) pe_int (fun _ _ => rfl)) pa_nil)))))))
      (pss_one (ps_ret (pe_and (pe_cmpR op_eq (pe_cmpR (op_own T.vd.own GE T.Eb pass0 (hr.mono (by decide))) (pv 10) (pv 5) (nomark _)) (pe_cmpR (op_eqD hr.units) (pv 9) (pv 3) (nomark _)) (nomark _)) (pe_one (pe_cmpR (op_eqD hr.units) (pe_call G__law_fields (hr.mono (by first | decide | omega)) rfl T._law_fields.mg T._law_fields.kp T._law_fields.b .nil pass0 (pa_cons (pv 5) pa_nil)) (pv 3) (nomark _))))))))))))))))))), ?_⟩
    walk_at "go"
    refine ⟨sa, ns, rfl, hS, hn, fun p H1 np S1 _ => ?_⟩
    walk_at "go"
    refine ⟨p, _, rfl, S1, by decide, by decide, fun r H2 r0 r1 W2 => ?_⟩
    walk_at "go"
    refine lc_things (fun _ => rfl) (fun _ => rfl) rfl W2.1 fun D v z H3 nD hD t3 W3 => ?_
    have S3 := W3.1
    have Dp : D ≠ p := W2.1.ne nD
    walk_at "go"
    refine i_mk (K := K) rfl hD fun x1 dx1 H4 nx1 s4 e4 => ?_
    have hD4 := s4 _ _ hD
    have t4 := t3.same s4
    have S4 := S3.keep s4
    have x1p : x1 ≠ p := S3.ne nx1
    walk_at "go"
    refine i_mkK (K := K) rfl hD4 fun x2 dx2 H5 nx2 s5 e5 => ?_
    have hD5 := s5 _ _ hD4
    have t5 := t4.same s5
    have S5 := S4.keep s5
    have e45 := s5 _ _ e4
    have x2p : x2 ≠ p := S4.ne nx2
    walk_at "go"
    refine ⟨x1, dx1, v, rfl, e45, fun F1 nF1 => ?_⟩
    have s6 := sm1 (o := .lst v.l) nF1
    refine ⟨_, rfl, i_neq (t5.same s6) upd_same (s6 _ _ hD5) ⟨_, rfl, i_no rfl ?_⟩⟩
    walk_at "go"
    refine ⟨x2, dx2, v, rfl, s6 _ _ e5, fun F2 nF2 => ?_⟩
    have s7 := sm1 (o := .lst v.l) nF2
    refine ⟨_, rfl, i_neq ((t5.same s6).same s7) upd_same (s7 _ _ (s6 _ _ hD5)) ⟨_, rfl, i_no rfl ?_⟩⟩
    have s57 : Same H5 (upd (upd H5 F1 (.lst v.l)) F2 (.lst v.l)) := fun b o e => s7 _ _ (s6 _ _ e)
    generalize upd (upd H5 F1 (.lst v.l)) F2 (.lst v.l) = H7 at s57
    clear s6 s7
    have hD7 := s57 _ _ hD5
    have t7 := t5.same s57
    have g7 : G5 K H7 v z := t7.g5
    have S7 := S5.keep s57
    have e17 := s57 _ _ e45
    have e27 := s57 _ _ e5
    have one5 : same5 z z = true := t7.self.1
    walk_at "go"
    refine i_own e17 e27 g7 g7 ⟨_, rfl, ?_⟩
    rw [one5]
    refine i_no rfl ?_
    walk_at "go"
    refine i_own e17 e27 g7 g7 ⟨_, rfl, ?_⟩
    rw [one5]
    refine i_no rfl ?_
    walk_at "go"
    refine i_own e27 e17 g7 g7 ⟨_, rfl, ?_⟩
    rw [one5]
    refine i_no rfl ?_
    walk_at "go"
    intro B nB
    have hB8 : upd H7 B (.lst v.l) B = some (.lst v.l) := upd_same
    have s8 := sm1 (o := .lst v.l) nB
    have hD8 := s8 _ _ hD7
    obtain ⟨u, d, i, fv, fz, p1, p2, p3, p4, p5, p6, p7⟩ := pick t7 r0 r1
    have p28 := p2.same s8
    generalize hH8 : upd H7 B (.lst v.l) = H8 at hB8 s8 hD8 p28
    walk_at "go"
    refine i_ixl hD8 p1 ?_
    walk_at "go"
    rename_i t nt
    have s9 := sm1 (o := .tup [u]) nt
    refine ⟨B, _, _, _, rfl, rfl, s9 _ _ hB8, p3, ?_⟩
    have tB : t ≠ B := fun e => by rw [e, hB8] at nt; cases nt
    have sT : Same H7 (upd (upd H8 t (.tup [u])) B (.lst (v.l.set i (.ref t)))) := fun b o e => by
      rw [upd_ne (ne_of_none e nB)]; exact s9 _ _ (s8 _ _ e)
    have hB10 : upd (upd H8 t (.tup [u])) B (.lst (v.l.set i (.ref t))) B = some (.lst (fv (.ref t)).l) := by rw [upd_same, p4]
    have ht10 : upd (upd H8 t (.tup [u])) B (.lst (v.l.set i (.ref t))) t = some (.tup [u]) := by rw [upd_ne tB, upd_same]
    generalize upd (upd H8 t (.tup [u])) B (.lst (v.l.set i (.ref t))) = H10 at sT hB10 ht10
    have hD10 := sT _ _ hD7
    have t10 := t7.same sT
    have S10 := S7.keep sT
    have e110 := sT _ _ e17
    have u10 := p2.same sT
    walk_at "go"
    refine i_mk (K := K) rfl hB10 fun x3 dx3 H11 nx3 s11 e311 => ?_
    have hD11 := s11 _ _ hD10
    have t11 := t10.same s11
    have S11 := S10.keep s11
    have e111 := s11 _ _ e110
    have g11 : G5 K H11 v z := t11.g5
    have g311 : G5 K H11 (fv (.ref t)) (fz (.tuple [d])) := p5 K H11 _ _ g11 ((u10.same s11).gd1 (s11 _ _ ht10))
    walk_at "go"
    refine i_own e311 e111 g311 g11 ⟨_, rfl, ?_⟩
    rw [p6]
    refine i_no rfl ?_
    walk_at "go"
    refine i_own e111 e311 g11 g311 ⟨_, rfl, ?_⟩
    rw [p7]
    refine i_no rfl ?_
    walk_at "go"
    refine i_own e111 e311 g11 g311 ⟨_, rfl, ?_⟩
    rw [p7]
    refine i_no rfl ?_
    walk_at "go"
    refine lc_things (fun _ => rfl) (fun _ => rfl) rfl S11 fun R w y H12 nR hR12 t12 W12 => ?_
    have S12 := W12.1
    have hD12 := W12.get Dp hD11
    have e112 := W12.get x1p e111
    have q12 := t11.went S11 W12
    walk_at "go"
    refine i_mk (K := K) rfl hR12 fun x4 dx4 H13 nx4 s13 e413 => ?_
    have hD13 := s13 _ _ hD12
    have hR13 := s13 _ _ hR12
    have e113 := s13 _ _ e112
    have t13 := t12.same s13
    have q13 := q12.same s13
    walk_at "go"
    refine i_own e413 e113 t13.g5 q13.g5 ?_
    walk_at "go"
    refine i_eqD t13 q13 hR13 hD13 ?_
    refine i_rEq rfl ⟨_, rfl, i_yes (decide_eq_true (by rw [Bool.bne_false])) ?_⟩
    walk_at "go"
    refine ⟨x1, dx1, v, rfl, e113, fun F3 nF3 => ?_⟩
    have s14 := sm1 (o := .lst v.l) nF3
    refine ⟨_, rfl, i_eqD (q13.same s14) (q13.same s14) upd_same (s14 _ _ hD13) ?_⟩
    rw [one5]
    exact k _
end
end Me
set_option maxHeartbeats 8000000
namespace Me
open PySem L2
/-! ### from the head's facts -/
theorem eqB_ok {a b : Option Bool} (h : eqB a b = true) : a = b := of_decide_eq_true h
theorem all_and {l : List Bool} (h : l.all id = true) : ∀ b ∈ l, b = true := fun b hb => List.all_eq_true.mp h b hb
/-- no defaults: positional values us and keywords ks -/
theorem kbindsN {K : PySem.W.Frag} {x qual : Str} {params : Arguments} {body : List Stmt} {scope : Scope} {f : Addr} {fd : FuncData} {ps : List Str} (F : FunD K x qual params body scope [] [] f fd) (n : Nat) (ks : List Str) (g : {α : Type} → List α → List α → List α)
    (hrel : ∀ {vs zs : List V} {us ws : List Value}, L2.Vals vs us → L2.Vals zs ws → L2.Vals (g vs zs) (g us ws))
    (h : ∀ (kV doc pm : Value) (an : Option Addr) (cdv ct : Value) (us ws : List Value), us.length = n → ws.length = ks.length → bindArgs (PySem.W.fnOf x qual params body scope .none kV doc pm an cdv ct) ⟨us, ks.zip ws⟩ = pure (ps.zip (g us ws))) :
    KBn K fd ps n ks (fun us ws => g us ws) (fun vs zs => g vs zs) := by
  obtain ⟨oc, od, dV, kV, doc, pm, an, cdv, ct, osl, rfl, lk, hcd, hD, hK⟩ := F.ex
  rcases hD with ⟨_, rfl⟩ | ⟨e, _⟩
  · exact ⟨fun s us ws X l1 l2 => BindsTo.of_looks fun M => PySem.W.Looks.of_pure (h kV doc pm an cdv ct us ws l1 l2), fun r1 r2 => hrel r1 r2⟩
  · exact absurd rfl e
theorem vals_append {vs zs : List V} {us ws : List Value} (a : L2.Vals vs us) (b : L2.Vals zs ws) : L2.Vals (vs ++ zs) (us ++ ws) := a.append b
theorem vals_rev {vs : List V} {us : List Value} (a : L2.Vals vs us) : L2.Vals vs.reverse us.reverse := by
  induction a with
  | nil => exact .nil
  | cons h _ ih =>
    rw [List.reverse_cons, List.reverse_cons]
    exact vals_append ih (.cons h .nil)
section
variable {K : PySem.W.Frag} {mg : Str → Option Value} {h : Heap}
theorem vd_ok (X : K.In h) (G : h.Ns mainGlobals mg) (c2 : exB K = true) {I E : DA} (hI : I.f = He.ma K (He.ga K "Verdict") "__init__") (hE : E.f = He.ma K (He.ga K "Verdict") "__eq__") : Vd K mg (He.ga K "Verdict") I E := by
  have ex := all_and c2
  unfold exL at ex
  have x1 : kcs.all (fun y => (kcL K y.1 y.2.2).all id) = true := ex _ (by simp)
  have x5 : He.eqO (PySem.W.specialIn K (.builtin "object.__class__") "__get__") (some (some (.builtin "getset_descriptor.__get__"))) = true := ex _ (by simp)
  have x6 : eqB (PySem.W.takesIn K (.builtin "object.__class__")) (some true) = true := ex _ (by simp)
  have x7 : kcs.all (fun y => He.eqO (PySem.W.findIn K (.ref (He.ga K y.1)) "__ne__") (some (some (.builtin "object.__ne__")))) = true := ex _ (by simp)
  have m : (("Verdict", ["refused", "short", "in_step", "stepped", "other"], true) : Str × List Str × Bool) ∈ kcs := by simp [kcs]
  have z := all_and (List.all_eq_true.mp x1 _ m)
  have z0 : He.eqO (PySem.W.findIn K (.ref (He.ga K "Verdict")) "__ne__") (some (some (.builtin "object.__ne__"))) = true := List.all_eq_true.mp x7 _ m
  unfold kcL at z
  have z1 : He.eqO (PySem.W.nsIn K mainGlobals "Verdict") (some (some (.ref (He.ga K "Verdict")))) = true := z _ (by simp)
  have z2 : PySem.W.plainGet K (He.ga K "Verdict") Str.empty = true := z _ (by simp)
  have z3 : PySem.W.hasDictIn K (He.ga K "Verdict") = true := z _ (by simp)
  have z4 : PySem.W.plainOver K (He.ga K "Verdict") = true := z _ (by simp)
  have z5 : He.eqO (PySem.W.findIn K (.ref (He.ga K "Verdict")) "__setattr__") (some (some (.builtin "object.__setattr__"))) = true := z _ (by simp)
  have z6 : PySem.W.makesIn K (He.ga K "Verdict") = true := z _ (by simp)
  have z7 : PySem.W.keepIn K (.ref (He.ga K "Verdict")) = true := z _ (by simp)
  have z8 : He.eqO (PySem.W.findIn K (.ref (He.ga K "Verdict")) "__class__") (some (some (.builtin "object.__class__"))) = true := z _ (by simp)
  have z9 : eqB (PySem.W.mroIn K (He.ga K "Verdict") (.type "object")) (some true) = true := z _ (by simp)
  have z10 : allK.all (fun f => He.eqO (PySem.W.findIn K (.ref (He.ga K "Verdict")) f) (some none)) = true := z _ (by simp)
  have z11 : He.eqO (PySem.W.findIn K (.ref (He.ga K "Verdict")) "__eq__") (some (some (.ref (He.ma K (He.ga K "Verdict") "__eq__")))) = true := z _ (by simp)
  have z12 : PySem.W.isFn K (.ref (He.ma K (He.ga K "Verdict") "__eq__")) = true := z _ (by simp)
  have z14 : kcs.all (fun y => eqB (PySem.W.kitOne K (.ref (He.ga K "Verdict")) (.ref (He.ga K y.1))) (some (decide ("Verdict" = y.1)))) = true := z _ (by simp)
  have z17 : (He.eqO (PySem.W.findIn K (.ref (He.ga K "Verdict")) "__init__") (some (some (.ref (He.ma K (He.ga K "Verdict") "__init__")))) && (PySem.W.isFn K (.ref (He.ma K (He.ga K "Verdict") "__init__")) && PySem.W.keepIn K (.ref (He.ma K (He.ga K "Verdict") "__init__")))) = true := z _ (by simp)
  obtain ⟨a1, a2⟩ := Bool.and_eq_true_iff.mp z17
  have kt : PySem.W.kitOne K (.ref (He.ga K "Verdict")) (.ref (He.ga K "Verdict")) = some true := by
    have q := eqB_ok (List.all_eq_true.mp z14 _ m)
    have e : decide (("Verdict" : Str) = "Verdict") = true := decide_eq_true rfl
    dsimp only at q
    rw [q]; exact congrArg some e
  exact { gl := PySem.W.mg_of X G (He.eqO_ok z1), cl := ⟨z2, z3, z4, He.eqO_ok z5⟩, no := (fun f hf => He.eqO_ok (List.all_eq_true.mp z10 f hf)), own := ⟨(by rw [hE]; exact He.eqO_ok z11), (by rw [hE]; exact z12), He.eqO_ok z0, eqB_ok z9⟩, mkI := (by rw [hI]; exact ⟨z6, He.eqO_ok a1, (Bool.and_eq_true_iff.mp a2).1, z7⟩), cc := He.eqO_ok z8, kt := kt, sp := He.eqO_ok x5, tk := eqB_ok x6 }
theorem mk_txt (X : K.In h) (G : h.Ns mainGlobals mg) (e : obsK K = valK) : ∃ a : Ad, a.law.f = He.ga K "law" ∧ Txt K mg a := by
  have c : He.SaysD fa fn K := congrArg (fun z : AlK => z.1) e
  have c2 : exB K = true := congrArg (fun z : AlK => z.2) e
  obtain ⟨fd0, F0⟩ := c.def_ 0 (d := dG "are_same" 1) rfl
  obtain ⟨fd1, F1⟩ := c.def_ 1 (d := dG "_law_start" 5) rfl
  obtain ⟨fd2, F2⟩ := c.def_ 2 (d := dG "_law_pull" 6) rfl
  obtain ⟨fd3, F3⟩ := c.def_ 3 (d := dG "_law_big" 7) rfl
  obtain ⟨fd4, F4⟩ := c.def_ 4 (d := dG "_law_word" 8) rfl
  obtain ⟨fd5, F5⟩ := c.def_ 5 (d := dG "_law_bits" 9) rfl
  obtain ⟨fd6, F6⟩ := c.def_ 6 (d := dG "_law_thing" 10) rfl
  obtain ⟨fd7, F7⟩ := c.def_ 7 (d := dG "_law_fields" 11) rfl
  obtain ⟨fd8, F8⟩ := c.def_ 8 (d := dG "law" 12) rfl
  obtain ⟨fd9, F9⟩ := c.def_ 9 (d := dM "Verdict" "__init__" 3 0 []) rfl
  obtain ⟨fd10, F10⟩ := c.def_ 10 (d := dM "Verdict" "__eq__" 3 1 []) rfl
  refine ⟨{ C := He.ga K "Verdict", I := ⟨He.ma K (He.ga K "Verdict") "__init__", fd9⟩, E := ⟨He.ma K (He.ga K "Verdict") "__eq__", fd10⟩, are_same := ⟨He.ga K "are_same", fd0⟩, _law_start := ⟨He.ga K "_law_start", fd1⟩, _law_pull := ⟨He.ga K "_law_pull", fd2⟩, _law_big := ⟨He.ga K "_law_big", fd3⟩, _law_word := ⟨He.ga K "_law_word", fd4⟩, _law_bits := ⟨He.ga K "_law_bits", fd5⟩, _law_thing := ⟨He.ga K "_law_thing", fd6⟩, _law_fields := ⟨He.ga K "_law_fields", fd7⟩, law := ⟨He.ga K "law", fd8⟩ }, rfl, ?_⟩
  exact { vd := vd_ok X G c2 rfl rfl, isinstance := He.free_ok X G (c.fact 9 (f := .free "isinstance") rfl), int := He.free_ok X G (c.fact 10 (f := .free "int") rfl), list := He.free_ok X G (c.fact 11 (f := .free "list") rfl), len := He.free_ok X G (c.fact 12 (f := .free "len") rfl), range := He.free_ok X G (c.fact 13 (f := .free "range") rfl), are_same := ⟨F0, He.glo_ok X G (c.fact 0 (f := .glo "are_same") rfl), FunD.bindsN F0 fun _ _ _ _ _ _ us hl => match us, hl with | [_, _], _ => rfl⟩, _law_start := ⟨F1, He.glo_ok X G (c.fact 1 (f := .glo "_law_start") rfl), FunD.bindsN F1 fun _ _ _ _ _ _ us hl => match us, hl with | [_], _ => rfl⟩, _law_pull := ⟨F2, He.glo_ok X G (c.fact 2 (f := .glo "_law_pull") rfl), FunD.bindsN F2 fun _ _ _ _ _ _ us hl => match us, hl with | [_, _], _ => rfl⟩, _law_big := ⟨F3, He.glo_ok X G (c.fact 3 (f := .glo "_law_big") rfl), FunD.bindsN F3 fun _ _ _ _ _ _ us hl => match us, hl with | [_, _], _ => rfl⟩, _law_word := ⟨F4, He.glo_ok X G (c.fact 4 (f := .glo "_law_word") rfl), FunD.bindsN F4 fun _ _ _ _ _ _ us hl => match us, hl with | [_, _], _ => rfl⟩, _law_bits := ⟨F5, He.glo_ok X G (c.fact 5 (f := .glo "_law_bits") rfl), FunD.bindsN F5 fun _ _ _ _ _ _ us hl => match us, hl with | [_, _], _ => rfl⟩, _law_thing := ⟨F6, He.glo_ok X G (c.fact 6 (f := .glo "_law_thing") rfl), FunD.bindsN F6 fun _ _ _ _ _ _ us hl => match us, hl with | [_], _ => rfl⟩, _law_fields := ⟨F7, He.glo_ok X G (c.fact 7 (f := .glo "_law_fields") rfl), FunD.bindsN F7 fun _ _ _ _ _ _ us hl => match us, hl with | [_], _ => rfl⟩, law := ⟨F8, He.glo_ok X G (c.fact 8 (f := .glo "law") rfl), FunD.bindsN F8 fun _ _ _ _ _ _ us hl => match us, hl with | [_], _ => rfl⟩, I1 := F9, Ib := FunD.bindsN F9 fun _ _ _ _ _ _ us hl => match us, hl with | [_, _, _, _, _, _], _ => rfl, E1 := F10, Eb := FunD.bindsN F10 fun _ _ _ _ _ _ us hl => match us, hl with | [_, _], _ => rfl, Ik := kbindsN F9 1 vNames (fun us ws => us ++ ws.reverse) (fun r1 r2 => vals_append r1 (vals_rev r2)) fun _ _ _ _ _ _ us ws hl hw => match us, ws, hl, hw with | [_], [_, _, _, _, _], _, _ => rfl }
end
end Me
set_option maxHeartbeats 0
open PySem PySem.W PySem.Calls PyProof.Rows
theorem PySem.Challenge.cw_roomleft_k65_verdict_objects_holds : PySem.Challenge.rw_roomleft_k65_verdict_objects.Holds := by
  w_on; o_law
  refine HandSHeadRun.head_any (r := OpenLaw.row PySem.Challenge.rw_roomleft_k65_verdict_objects) (q := view (OpenLaw.row PySem.Challenge.rw_roomleft_k65_verdict_objects).prog [12]) (H := Me.hk) (ob := Me.ob) (M := 2000) (loose := Me.loose)
    (d := HandSHeadRun.topDef (OpenLaw.row PySem.Challenge.rw_roomleft_k65_verdict_objects).prog 12) (kwd := []) Me.ob_eq
    (by kernel_rfl) (fun s => by kernel_rfl) Me.run (by kernel_rfl) (by kernel_rfl) (by kernel_rfl) (by rfl) (by first | assumption | decide +kernel) (by decide +kernel) ⟨rfl, rfl, rfl, rfl, rfl, by decide +kernel⟩ ?hw ?hc
  case hw => w_witness2
  case hc =>
    refine L2.walk_ofE (l := PySem.Challenge.rw_roomleft_k65_verdict_objects) (n := 63) (k := 9) (x := "_law_script") (CX := L2.CX0) rfl (by decide) (by kernel_rfl) ⟨rfl, by decide, by decide⟩ ?F (fun _ _ _ _ z => z)
    intro w mg f h Y G hmg0
    obtain ⟨K, KX, c⟩ := Y
    have hmg : mg ("law" : PySem.Str) = some (.ref f) := by
      have e : (HandSHeadRun.topDef (OpenLaw.row PySem.Challenge.rw_roomleft_k65_verdict_objects).prog 12).name = ("law" : PySem.Str) := by kernel_rfl
      rw [← e]
      exact hmg0
    obtain ⟨a, ea, T⟩ := Me.mk_txt KX G c
    have ef := hmg.symm.trans T.law.mg
    cases ef
    refine ⟨K, a.law.fd, Me.spLaw K, KX, fun s v => ?_, fun H b ns hl _ hS => ⟨b, ns, rfl, hS, hl, fun _ => rfl⟩, fun base _ _ => Me.ok_law T⟩
    have bd := T.law.b
    exact L2.FunD.bindsA (ps := ["_law_script"]) T.law.fn (fun _ _ _ _ _ _ us hl => match us, hl with | [_], _ => rfl) s [v] rfl
