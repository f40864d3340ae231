import PyProof.Rows.All
import Wide.All
import OpenK.AllK
import Wide.FinOn
import KE.KStateDown
import KE.KExcSuper
import HandS.Base
import HandS.Call
import HandS.Ends
import HandS.More
import HandS.Words
import HandS.Exc
import HandS.Defaults
import HandS.HeadHook1
import HandS.HeadHook2
import HandS.Head0
import HandS.Head1
import HandS.Head2
import HandS.ForMost
import HandS.ForExc
import HandS.ExcInit
import HandS.ExcField
import HandS.IsInst
import HandS.Wide
import KE.KExcIs
import HandS.WordsExc
import HandS.HotCalls
import HandS.HeadEnd
import PySem.Challenge.RW_roomleft_k01_errors_and_their_fields
set_option Elab.async false
set_option linter.all false
set_option maxRecDepth 100000
set_option maxHeartbeats 4000000
namespace Me
open PySem PySem.Spec PyProof.Rows L2
/-! ### the text -/
def top (i : Nat) : Stmt := PySem.Challenge.pw_roomleft_k01_errors_and_their_fields.main.body.getD i (.Pass ⟨0, 0, 0, 0⟩)
/-- the errors in the law's order, with their fields -/
def ers : List (Str × List Str) := [("BadKind", ["part"]), ("BadEdition", ["part"]), ("MissingKind", ["name"]), ("RingOfCalls", ["name"]), ("LongBody", ["name", "inner"]), ("RoomTaken", ["name", "inner"]),
  ("NoKind", []), ("NoBits", []), ("BadValue", ["path"]), ("BadBits", ["at"]), ("TooFew", ["due"]), ("Left", ["at"]), ("NoOwn", []), ("BadNumber", ["part"]), ("TooMany", ["most"]), ("NoUndo", []), ("NoStep", ["reason"]),
  ("BadWeights", []), ("NoPlace", []), ("NoRoom", ["path"]), ("Broken", ["at", "word"]), ("BadText", ["line"]), ("NoLine", []), ("NoName", ["name"])]
/-- where the errors without fields stand -/
def nos : List Nat := [6, 7, 12, 15, 17, 18, 22]
def iniOf (i : Nat) : Stmt := inClass (top (i + 2)) 0
def nmOf (i : Nat) : Str := (ers.getD i ("", [])).1
def fsOf (i : Nat) : List Str := (ers.getD i ("", [])).2
/-! ### what is asked of the written part -/
/-- an error's class: its object -/
def oexB (K : PySem.W.Frag) (C : Addr) : Bool := match K.lookup C with
  | some ⟨.type "type", _, .cls cd, sl⟩ => (match cd.mro, sl.toList with
    | .ref C' :: bm, [_, _, _, _, some (.builtin n), _] => C' == C && (n == "ValueError.__new__" && (!cd.hasDel && (cd.hasDict && PySem.HandSPX.refsVE bm)))
    | _, _ => false)
  | _ => false
/-- all names of fields -/
def allF : List Str := ["part", "name", "inner", "path", "at", "due", "most", "reason", "word", "line"]
def eqB (a b : Option Bool) : Bool := decide (a = b)
/-- the class of an error: its attributes, its place among the classes -/
def erL (K : PySem.W.Frag) (x : Str) (fs : List Str) : List Bool :=
  [oexB K (He.ga K x), He.eqO (PySem.W.nsIn K mainGlobals x) (some (some (.ref (He.ga K x)))), He.eqO (PySem.W.findIn K (.ref (He.ga K x)) "__setattr__") (some (some (.builtin "object.__setattr__"))),
   eqB (PySem.W.subIn K (.ref (He.ga K x)) (.type "BaseException")) (some true), decide (PySem.W.typeIn K (.ref (He.ga K x)) = some (.type "type")), PySem.W.keepIn K (.ref (He.ga K x)),
   He.eqO (PySem.W.findIn K (.ref (He.ga K x)) "__getattribute__") (some (some (.builtin "BaseException.__getattribute__"))), He.eqO (PySem.W.findIn K (.ref (He.ga K x)) "__getattr__") (some none), PySem.W.hasDictIn K (He.ga K x),
   He.eqO (PySem.W.findIn K (.ref (He.ga K x)) "__class__") (some (some (.builtin "object.__class__"))), eqB (PySem.W.mroIn K (He.ga K x) (.type "object")) (some true), eqB (PySem.W.exmOne K (.ref (He.ga K x)) (.ref (He.ga K "RoomError"))) (some true),
   eqB (PySem.W.kitOne K (.ref (He.ga K x)) (.type "ValueError")) (some true), fs.all (fun f => He.eqO (PySem.W.findIn K (.ref (He.ga K x)) f) (some none)), allF.all (fun f => He.eqO (PySem.W.findIn K (.ref (He.ga K x)) f) (some none)), ers.all (fun y => eqB (PySem.W.kitOne K (.ref (He.ga K x)) (.ref (He.ga K y.1))) (some (decide (x = y.1)))),
   He.eqO (PySem.W.findIn K (.ref (He.ga K x)) "__init__") (some (some (.ref (He.ma K (He.ga K x) "__init__")))), decide (PySem.W.typeIn K (.ref (He.ma K (He.ga K x) "__init__")) = some (.type "function"))]
def erB (K : PySem.W.Frag) (x : Str) (fs : List Str) : Bool := (erL K x fs).all id
/-- the __init__ of an error without fields: super().__init__() -/
def supB (K : PySem.W.Frag) (x q : Str) : Bool :=
  let C := He.ga K x
  match K.lookup (He.ma K C "__init__") with
  | some ⟨_, _, .func fd, _⟩ => PySem.W.codeIn K fd.code q && (decide (fd.defaults = .none) && (match fd.closure with
    | [(n, cc)] => decide (n = "__class__") && (match K.lookup cc with
      | some ⟨_, _, .cell (some (.ref D)), _⟩ => D == C && (match fd.code with
        | .ref c => (match K.lookup c with
          | some ⟨_, _, .fields vs, _⟩ => (match vs.toList with
            | _ :: _ :: .str f _ :: _ => (PySem.Challenge.pw_roomleft_k01_errors_and_their_fields.main.file : Str) == f
            | _ => false)
          | _ => false)
        | _ => false)
      | _ => false)
    | _ => false))
  | _ => false
/-- super() of such an error, as the mro has it -/
def mroOk (K : PySem.W.Frag) (x : Str) : Bool := decide ((PySem.W.clsIn K (He.ga K x)).map (fun cd => cd.mro) = some [.ref (He.ga K x), .ref (He.ga K "RoomError"), .type "ValueError", .type "Exception", .type "BaseException", .type "object"])
def exL (K : PySem.W.Frag) : List Bool :=
  [ers.all (fun y => erB K y.1 y.2), nos.all (fun i => supB K (nmOf i) (nmOf i ++ ".__init__") && mroOk K (nmOf i)),
   He.eqO (PySem.W.alongIn K "__init__" [.ref (He.ga K "RoomError"), .type "ValueError", .type "Exception", .type "BaseException", .type "object"]) (some (some (.builtin "ValueError.__init__"))),
   He.eqO (PySem.W.nsIn K cStatics "thirdparty.any") (some none), He.eqO (PySem.W.specialIn K (.builtin "object.__class__") "__get__") (some (some (.builtin "getset_descriptor.__get__"))), eqB (PySem.W.takesIn K (.builtin "object.__class__")) (some true),
   He.eqO (PySem.W.nsIn K mainGlobals "RoomError") (some (some (.ref (He.ga K "RoomError"))))]
def exB (K : PySem.W.Frag) : Bool := (exL K).all id
/-- a method with a closure, as its text tells it -/
abbrev FnS : Type := Option (Str × Str × Arguments × FuncBody × Scope × Addr × Addr)
def fnS (K : PySem.W.Frag) (p : Str × Option Str) : FnS := match K.lookup (He.fAd K p) with
  | some ⟨_, _, .func fd, _⟩ => some (fd.name, fd.qualname, fd.params, fd.body, fd.scope, fd.globals, fd.builtins)
  | _ => none
def valS (i : Nat) : FnS := some ("__init__", nmOf i ++ ".__init__", defArgs (iniOf i), .stmts (defBody (iniOf i)), defScope (iniOf i), mainGlobals, builtinsNs)
def dG (x : Str) (i : Nat) : He.DefD := ⟨(x, none), x, x, defArgs (top i), defBody (top i), defScope (top i), [], []⟩
def dI (i : Nat) : He.DefD := ⟨(nmOf i, some "__init__"), "__init__", nmOf i ++ ".__init__", defArgs (iniOf i), defBody (iniOf i), defScope (iniOf i), [], []⟩
def fn : List He.DefD := [dG "_law_is_int" 27, dG "_law_same_dict" 28, dG "_law_same" 29, dG "_law_start" 30, dG "_law_pull" 31, dG "_law_big" 32, dG "_law_field" 33, dG "_law_raise_first" 34, dG "_law_raise" 35, dG "_law_classes" 36, dG "_law_fields" 37, dG "_law_caught" 38, dG "law" 39] ++
  [dI 0, dI 1, dI 2, dI 3, dI 4, dI 5, dI 8, dI 9, dI 10, dI 11, dI 13, dI 14, dI 16, dI 19, dI 20, dI 21, dI 23]
def gls : List Str := ["_law_is_int", "_law_same_dict", "_law_same", "_law_start", "_law_pull", "_law_big", "_law_field", "_law_raise_first", "_law_raise", "_law_classes", "_law_fields", "_law_caught", "law"]
def frees : List Str := ["isinstance", "int", "bool", "str", "dict", "list", "tuple", "len", "range", "ValueError", "super"]
def fa : List He.Fa := gls.map .glo ++ frees.map .free
/-! ### the Hook -/
def asK (g : Addr → Option Obj) : Nat → List Addr
  | 0 => [mainGlobals, cStatics]
  | n + 1 => He.growD g (asK g n)
abbrev AlK : Type := He.AlD × Bool × List FnS
def obsK (K : PySem.W.Frag) : AlK := (He.obsD fa fn K, exB K, nos.map fun i => fnS K (nmOf i, some "__init__"))
def valK : AlK := (He.valD fn, true, nos.map valS)
def obK (g : Addr → Option Obj) : AlK := obsK (He.frG g (asK g 4))
def hk : PySem.W.Hook where
  α := AlK
  obs := fun s => obK s.heap.get?
  val := fun _ => valK
  says := fun _ h => ∃ K : PySem.W.Frag, K.In h ∧ obsK K = valK
  of := fun _ _ e => ⟨_, He.frG_in, e⟩
  keeps := fun _ _ _ ⟨K, hK, c⟩ k => ⟨K, PySem.W.Frag.In.keeps hK k, c⟩
theorem obK_eq {g : Addr → Option Obj} {s : Shared} (h : ∀ a, g a = s.heap.get? a) : obK g = hk.obs s := by
  have e : g = s.heap.get? := funext h
  rw [e] <;> rfl
end Me
set_option maxHeartbeats 0
namespace Me
open PySem PySem.Spec PyProof.Rows L2
abbrev R : PySem.W.OpenRow := PySem.W.OpenLaw.row PySem.Challenge.rw_roomleft_k01_errors_and_their_fields
def ob (s : PySem.W.SharedT) : AlK := obK (HandSHeadRun.getT s)
theorem ob_eq (s : PySem.W.SharedT) : ob s = hk.obs s.abs := obK_eq (HandSHeadRun.getT_eq s)
def loose1 : List PySem.Str := ["RoomError", "BadKind", "BadEdition", "MissingKind", "RingOfCalls", "LongBody", "RoomTaken", "NoKind", "NoBits", "BadValue", "BadBits", "TooFew", "Left"]
def loose2 : List PySem.Str := ["NoOwn", "BadNumber", "TooMany", "NoUndo", "NoStep", "BadWeights", "NoPlace", "NoRoom", "Broken", "BadText", "NoLine", "NoName"]
def loose3 : List PySem.Str := ["_law_is_int", "_law_same_dict", "_law_same", "_law_start", "_law_pull", "_law_big", "_law_field", "_law_raise_first", "_law_raise", "_law_classes", "_law_fields", "_law_caught"]
def loose : List PySem.Str := loose1 ++ loose2 ++ loose3
theorem run (w : World) : HandSHeadRun.RunEq R (PySem.W.view R.prog [39]) hk ob 7200 loose w := by
  intro os
  kernel_rfl
end Me
set_option maxHeartbeats 4000000
namespace Me
open PySem L2
/-! ### the readings, one step each, what follows last -/
section
variable {σ : L2.St} {H : Hp} {Q : VK} {QB : Bool → Hp → Prop} {QA : List V → Hp → Prop} {D : Ends} {K : PySem.W.Frag}
theorem i_var {i : Nat} {v : V} (e : σ[i]? = some (some v)) (q : Q v H) : tVar i σ H Q := ⟨v, e, q⟩
theorem i_c {v : V} (q : Q v H) : tC v σ H Q := q
theorem i_op {r : R2} {ta tb : TE} (q : ta σ H fun x H1 => tb σ H1 fun y H2 => r x y H2 Q) : tOp r ta tb σ H Q := q
theorem i_un {r : V → Hp → VK → Prop} {ta : TE} (q : ta σ H fun x H1 => r x H1 Q) : tUn r ta σ H Q := q
theorem i_nil (q : QA [] H) : tNil σ H QA := q
theorem i_cons {ta : TE} {tr : TA} (q : ta σ H fun x H1 => tr σ H1 fun xs H2 => QA (x :: xs) H2) : tCons ta tr σ H QA := q
theorem i_cb {r : List V → Hp → VK → Prop} {t : TA} (q : t σ H fun vs H1 => r vs H1 Q) : tCB r t σ H Q := q
theorem i_call {sp : Sp} {dvs : List V} {E : XK} {t : TA} (q : t σ H fun vs H1 => sp (vs ++ dvs) H1 Q E) : tCall sp dvs E t σ H Q := q
theorem i_seq {t u : TS} (q : t { D with nx := u D } σ H) : tSeq t u D σ H := q
theorem i_next (q : D.nx σ H) : tNext D σ H := q
theorem i_asg {te : TE} {g : TG} (q : te σ H fun x H1 => g x σ H1 D.nx) : tAsg te g D σ H := q
theorem i_gname {i : Nat} {v : V} {R : L2.St → Hp → Prop} (q : R (σ.set i (some v)) H) : gName i v σ H R := q
theorem i_gsub {to ti : TE} {t : TSet} {v : V} {R : L2.St → Hp → Prop} (q : to σ H fun o H1 => ti σ H1 fun i H2 => t o i v H2 fun H3 => R σ H3) : gSub to ti t v σ H R := q
theorem i_ret {te : TE} (q : te σ H D.rt) : tRet te D σ H := q
theorem i_retN (q : D.rt .non H) : tRetN D σ H := q
theorem i_drop {te : TE} (q : te σ H fun _ H1 => D.nx σ H1) : tDrop te D σ H := q
theorem i_ifS {c : TT} {t u : TS} (q : c σ H fun b H1 => if b = true then t D σ H1 else u D σ H1) : tIfS c t u D σ H := q
theorem i_if {c : TT} {ta tb : TE} (q : c σ H fun b H1 => if b = true then ta σ H1 Q else tb σ H1 Q) : tIf c ta tb σ H Q := q
theorem i_and {t u : TT} (q : t σ H fun c H1 => if c = true then u σ H1 QB else QB false H1) : tAnd t u σ H QB := q
theorem i_or {t u : TT} (q : t σ H fun c H1 => if c = true then QB true H1 else u σ H1 QB) : tOr t u σ H QB := q
theorem i_not {t : TT} (q : t σ H fun c H1 => QB (!c) H1) : tNot t σ H QB := q
theorem i_andV {ta tb : TE} (q : ta σ H fun x H1 => ∃ c, x = .bl c ∧ if c = true then tb σ H1 Q else Q (.bl false) H1) : tAndV ta tb σ H Q := q
theorem i_orV {ta tb : TE} (q : ta σ H fun x H1 => ∃ c, x = .bl c ∧ if c = true then Q (.bl true) H1 else tb σ H1 Q) : tOrV ta tb σ H Q := q
theorem i_notV {ta : TE} (q : ta σ H fun x H1 => ∃ c, x = .bl c ∧ Q (.bl (!c)) H1) : tNotV ta σ H Q := q
theorem i_test {t : TE} (q : t σ H fun x H' => ∃ k, x = .bl k ∧ QB k H') : tTest t σ H QB := q
theorem i_tB {t : TE} (q : t σ H fun x H' => ∃ k, x = .bl k ∧ QB k H') : tB t σ H QB := q
theorem i_bl {b : Bool} {R : Bool → Prop} (q : R b) : ∃ k, V.bl b = .bl k ∧ R k := ⟨b, rfl, q⟩
theorem i_rI0 {g : Int → Int → V} {i j : Int} (q : Q (g i j) H) : rI0 g (.int i) (.int j) H Q := ⟨i, j, rfl, rfl, q⟩
theorem i_rI {C : Int → Int → Prop} {g : Int → Int → V} {i j : Int} (c : C i j) (q : Q (g i j) H) : rI C g (.int i) (.int j) H Q := ⟨i, j, rfl, rfl, c, q⟩
theorem i_rU {g : Int → V} {i : Int} (q : Q (g i) H) : rU g (.int i) H Q := ⟨i, rfl, q⟩
theorem i_rEq {x y : V} (s : scal x y = true) (q : Q (.bl (decide (x = y))) H) : rEq x y H Q := ⟨s, q⟩
theorem i_rNe {x y : V} (s : scal x y = true) (q : Q (.bl (!decide (x = y))) H) : rNe x y H Q := ⟨s, q⟩
theorem i_ixl {p : Addr} {xs : List V} {i : Int} {v : V} (h : H p = some (.lst xs)) (e : atI xs i = some v) (q : Q v H) : rIxL K (.ref p) (.int i) H Q := ⟨p, xs, i, v, rfl, rfl, SqL.of h, e, q⟩
theorem i_ixt {p : Addr} {xs : List V} {i : Int} {v : V} (h : H p = some (.tup xs)) (e : atI xs i = some v) (q : Q v H) : rIxT K (.ref p) (.int i) H Q := ⟨p, xs, i, v, rfl, rfl, SqT.of h, e, q⟩
theorem i_setl {p : Addr} {xs : List V} {k : Int} {j : Nat} {v : V} {R : Hp → Prop} (h : H p = some (.lst xs)) (e : ixN xs.length k = some j) (q : R (upd H p (.lst (xs.set j v)))) : rSetL (.ref p) (.int k) v H R := ⟨p, xs, k, j, rfl, rfl, h, e, q⟩
theorem i_lst {t : TA} (q : t σ H fun xs H1 => xs.length ≤ sizeLine ∧ ∀ p, H1 p = none → Q (.ref p) (upd H1 p (.lst xs))) : tLst t σ H Q := q
theorem i_tup {t : TA} (q : t σ H fun xs H1 => xs.length ≤ sizeLine ∧ ∀ p, H1 p = none → Q (.ref p) (upd H1 p (.tup xs))) : tTup t σ H Q := q
theorem i_dnew (q : ∀ p, H p = none → Q (.ref p) (upd H p (.dK []))) : tDNewK σ H Q := q
theorem i_len {p : Addr} {xs : List V} {R : V → Hp → Prop} {vs : List V} (ev : vs = [.ref p]) (h : H p = some (.lst xs)) (q : R (.int xs.length) H) : ∃ (p : Addr) (ys : List V), vs = [V.ref p] ∧ (SqL K H p ys ∨ SqT K H p ys) ∧ R (.int ys.length) H := ⟨p, xs, ev, .inl (SqL.of h), q⟩
theorem i_lenT {p : Addr} {xs : List V} {R : V → Hp → Prop} {vs : List V} (ev : vs = [.ref p]) (h : H p = some (.tup xs)) (q : R (.int xs.length) H) : ∃ (p : Addr) (ys : List V), vs = [V.ref p] ∧ (SqL K H p ys ∨ SqT K H p ys) ∧ R (.int ys.length) H := ⟨p, xs, ev, .inr (SqT.of h), q⟩
end
/-! ### tests -/
theorem i_itd {p : Prop} [Decidable p] {A B : Prop} (ht : p → A) (hf : ¬ p → B) : if decide p = true then A else B := by
  by_cases h : p
  · rw [if_pos (decide_eq_true h)]; exact ht h
  · rw [decide_eq_false h, if_neg Bool.false_ne_true]; exact hf h
theorem i_itn {p : Prop} [Decidable p] {A B : Prop} (ht : ¬ p → A) (hf : p → B) : if (!decide p) = true then A else B := by
  by_cases h : p
  · rw [decide_eq_true h]; exact hf h
  · rw [decide_eq_false h]; exact ht h
theorem i_itb {c : Bool} {A B : Prop} (ht : c = true → A) (hf : c = false → B) : if c = true then A else B := by
  cases c
  · exact hf rfl
  · exact ht rfl
theorem i_itei {a b : Int} {A B : Prop} (ht : a = b → A) (hf : a ≠ b → B) : if decide (V.int a = V.int b) = true then A else B :=
  i_itd (fun h => ht (V.int.inj h)) fun h => hf fun e => h (by rw [e])
theorem i_iten {a b : Int} {A B : Prop} (ht : a ≠ b → A) (hf : a = b → B) : if (!decide (V.int a = V.int b)) = true then A else B :=
  i_itn (fun h => ht fun e => h (by rw [e])) fun h => hf (V.int.inj h)
theorem i_ites {a b : Str} {A B : Prop} (ht : a = b → A) (hf : a ≠ b → B) : if decide (V.str a = V.str b) = true then A else B :=
  i_itd (fun h => ht (V.str.inj h)) fun h => hf fun e => h (by rw [e])
theorem i_itesn {a b : Str} {A B : Prop} (ht : a ≠ b → A) (hf : a = b → B) : if (!decide (V.str a = V.str b)) = true then A else B :=
  i_itn (fun h => ht fun e => h (by rw [e])) fun h => hf (V.str.inj h)
/-! ### the heap -/
theorem upd_get {H : Hp} {a b : Addr} {o : HO} {u : Option HO} (n : b ≠ a) (h : H b = u) : upd H a o b = u := by rw [upd_ne n]; exact h
theorem upd_none {H : Hp} {a b : Addr} {o : HO} (h : upd H a o b = none) : b ≠ a ∧ H b = none := by
  by_cases e : b = a
  · subst e; rw [upd_same] at h; cases h
  · rw [upd_ne e] at h; exact ⟨e, h⟩
theorem ne_lt {H : Hp} {a b : Addr} {xs ys : List V} (h : H a = some (.lst xs)) (h' : H b = some (.tup ys)) : a ≠ b := ne_of h h' (by intro z; cases z)
theorem ne_ll {H : Hp} {a b : Addr} {xs ys : List V} (h : H a = some (.lst xs)) (h' : H b = some (.lst ys)) (n : xs ≠ ys) : a ≠ b := ne_of h h' (by intro z; cases z; exact n rfl)
/-! ### the script's reader -/
/-- at p: a list of the items' list (at L), a place, a number that is used up, a number that is stirred -/
def StAt (H : Hp) (p L : Addr) : Prop := ∃ (ns : List Int) (i b c : Int), H p = some (.lst [.ref L, .int i, .int b, .int c]) ∧ H L = some (.lst (ns.map V.int)) ∧ ns.length ≤ 63 ∧ 0 ≤ i ∧ 0 ≤ b ∧ 0 ≤ c ∧ c < 2147483647
def StOk (H : Hp) (p : Addr) : Prop := ∃ L, StAt H p L
/-- the reader has gone on, nothing else has changed -/
def Went (p : Addr) (H H' : Hp) : Prop := StOk H' p ∧ (∀ a o, a ≠ p → H a = some o → H' a = some o) ∧ ∀ L, StAt H p L → StAt H' p L
theorem Went.get {p : Addr} {H H' : Hp} {a : Addr} {o : HO} (w : Went p H H') (n : a ≠ p) (h : H a = some o) : H' a = some o := w.2.1 a o n h
theorem Went.trans {p : Addr} {H H1 H2 : Hp} (a : Went p H H1) (b : Went p H1 H2) : Went p H H2 := ⟨b.1, fun x o n h => b.2.1 x o n (a.2.1 x o n h), fun L h => b.2.2 L (a.2.2 L h)⟩
theorem StAt.uniq {H : Hp} {p L L' : Addr} (h : StAt H p L) (h' : StAt H p L') : L = L' := by
  obtain ⟨_, _, _, _, e, _⟩ := h
  obtain ⟨_, _, _, _, e', _⟩ := h'
  rw [e] at e'
  injection e' with e'
  injection e' with e'
  injection e' with e' _
  exact V.ref.inj e'
theorem went_mk {H H' : Hp} {p L : Addr} (h : StAt H p L) (h' : StAt H' p L) (f : ∀ a o, a ≠ p → H a = some o → H' a = some o) : Went p H H' := ⟨⟨L, h'⟩, f, fun L' q => by rw [← h.uniq q]; exact h'⟩
theorem kb_NoneType_int : kitB "NoneType" "int" = some false := by decide +kernel
theorem kb_NoneType_bool : kitB "NoneType" "bool" = some false := by decide +kernel
theorem kb_NoneType_str : kitB "NoneType" "str" = some false := by decide +kernel
theorem kb_NoneType_dict : kitB "NoneType" "dict" = some false := by decide +kernel
theorem kb_NoneType_list : kitB "NoneType" "list" = some false := by decide +kernel
theorem kb_NoneType_tuple : kitB "NoneType" "tuple" = some false := by decide +kernel
theorem kb_bool_int : kitB "bool" "int" = some true := by decide +kernel
theorem kb_bool_bool : kitB "bool" "bool" = some true := by decide +kernel
theorem kb_bool_str : kitB "bool" "str" = some false := by decide +kernel
theorem kb_bool_dict : kitB "bool" "dict" = some false := by decide +kernel
theorem kb_bool_list : kitB "bool" "list" = some false := by decide +kernel
theorem kb_bool_tuple : kitB "bool" "tuple" = some false := by decide +kernel
theorem kb_int_int : kitB "int" "int" = some true := by decide +kernel
theorem kb_int_bool : kitB "int" "bool" = some false := by decide +kernel
theorem kb_int_str : kitB "int" "str" = some false := by decide +kernel
theorem kb_int_dict : kitB "int" "dict" = some false := by decide +kernel
theorem kb_int_list : kitB "int" "list" = some false := by decide +kernel
theorem kb_int_tuple : kitB "int" "tuple" = some false := by decide +kernel
theorem kb_str_int : kitB "str" "int" = some false := by decide +kernel
theorem kb_str_bool : kitB "str" "bool" = some false := by decide +kernel
theorem kb_str_str : kitB "str" "str" = some true := by decide +kernel
theorem kb_str_dict : kitB "str" "dict" = some false := by decide +kernel
theorem kb_str_list : kitB "str" "list" = some false := by decide +kernel
theorem kb_str_tuple : kitB "str" "tuple" = some false := by decide +kernel
theorem kb_tuple_int : kitB "tuple" "int" = some false := by decide +kernel
theorem kb_tuple_bool : kitB "tuple" "bool" = some false := by decide +kernel
theorem kb_tuple_str : kitB "tuple" "str" = some false := by decide +kernel
theorem kb_tuple_dict : kitB "tuple" "dict" = some false := by decide +kernel
theorem kb_tuple_list : kitB "tuple" "list" = some false := by decide +kernel
theorem kb_tuple_tuple : kitB "tuple" "tuple" = some true := by decide +kernel
theorem kb_list_int : kitB "list" "int" = some false := by decide +kernel
theorem kb_list_bool : kitB "list" "bool" = some false := by decide +kernel
theorem kb_list_str : kitB "list" "str" = some false := by decide +kernel
theorem kb_list_dict : kitB "list" "dict" = some false := by decide +kernel
theorem kb_list_list : kitB "list" "list" = some true := by decide +kernel
theorem kb_list_tuple : kitB "list" "tuple" = some false := by decide +kernel
theorem kb_dict_int : kitB "dict" "int" = some false := by decide +kernel
theorem kb_dict_bool : kitB "dict" "bool" = some false := by decide +kernel
theorem kb_dict_str : kitB "dict" "str" = some false := by decide +kernel
theorem kb_dict_dict : kitB "dict" "dict" = some true := by decide +kernel
theorem kb_dict_list : kitB "dict" "list" = some false := by decide +kernel
theorem kb_dict_tuple : kitB "dict" "tuple" = some false := by decide +kernel
theorem i_isi {K : PySem.W.Frag} {H : Hp} {Q : VK} {x : V} {t n : String} {b : Bool} (ty : TyX K H x (.type t)) (e : kitB t n = some b) (q : Q (.bl b) H) : rIsi K [x, .ty n] H Q := ⟨x, .ty n, .type t, .type n, b, rfl, .ty n, ty, kit_ty e, q⟩
end Me
set_option maxHeartbeats 4000000
namespace Me
open PySem PySem.Spec PyProof.Rows L2 PySem.W
/-! ### an error without fields: its __init__ says super().__init__() -/
/-- super(): the call of the built-in __init__ that it hands out -/
theorem bound_called {prog : Program} {w : World} {A : Around} {E : Value → Shared → Prop} {hp : Heap} {g : Array GenState} {d : Drawn} {t : Nat} {os : OsState} {nm q : Str} {C N u e t0 : Addr} {bs bm : List Value} {hd : Bool} {sn : List Str} {sub : List Value} {ab : Bool} {col : Option Bool} {dd : Option Addr} {k0 k1 k2 k3 k5 : Option Value} {Q : Value → Shared → Prop}
    (lC : hp.get? C = some (excClassObj nm q C N bs bm hd sn sub ab col dd k0 k1 k2 k3 k5 "ValueError.__new__")) (le : hp.get? e = some (PySem.HandSPX.excO C t0)) (lu : hp.get? u = some (kxs_mw "ValueError.__init__" e))
    (fin : ∀ h1 t1, (∀ b o, b ≠ e → hp.get? b = some o → h1.get? b = some o) → h1.get? e = some (PySem.HandSPX.excO C t1) → Q .none ⟨h1, g, d, t, os⟩) :
    wpAny (model prog w) A (call (.ref u) []) Q E ⟨hp, g, d, t, os⟩ := by
  refine wpAny_call (codeAny_of_tree ?_)
  show wpAny _ A.in1 (callAny (.ref u) ⟨[], []⟩) _ _ _
  simp only [callAny]
  refine wpAny_bind (wpAny_load lu ?_)
  simp only [kxs_mw, (by decide : (Value.type "method-wrapper" == Value.type "method" || Value.type "method-wrapper" == Value.type "builtin_function_or_method" || Value.type "method-wrapper" == Value.type "method-wrapper") = true), if_true]
  refine KFB.if_so (by decide) (wpAny_bind (check_bound_init F.excBase_ValueError.toExcCallFacts lC le rfl ?_))
  refine wpAny_bind (wpAny_pure (wpAny_pure ⟨plainId_quiet F.excBase_ValueError.init.plain _, codeAny_builtin F.excBase_ValueError.initEntry ?_⟩))
  exact exc_init_tree (cls := .ref C) (t0 := t0) (dv := none) (c2 := .none) (c3 := .none) (b4 := .bool false) le (Nat.zero_le _) fun h1 kp e1 _ => fin h1 _ kp e1
/-- the names of such an __init__ -/
def scS : Scope := { kind := .function, names := [(PySem.Str.ofString "self", .local), (PySem.Str.ofString "__class__", .free), (PySem.Str.ofString "super", .globalImplicit)], isGenerator := false, isCoroutine := false, more := [] }
/-- what the written part says of such a class, its __init__ at fI -/
structure SupC (prog : Program) (K : PySem.W.Frag) (mg : Str → Option Value) (C fI : Addr) : Prop where
  fn : ∃ (qn : Str) (p0 p1 p2 p3 p4 : Pos) (ap : Pos) (dV kV doc pm ct oc : Value) (an od : Option Addr) (cda cc : Addr) (osl : Array (Option Value)),
    K.lookup fI = some ⟨oc, od, .func (ksFn "__init__" qn { posonlyargs := [], args := [{ arg := "self", annotation := none, pos := ap }], vararg := none, kwonlyargs := [], kw_defaults := [], kwarg := none, defaults := [] } [.Expr (.Call (.Attribute (.Call (.Name "super" p0) [] [] p1) "__init__" p2) [] [] p3) p4] scS dV kV doc pm an (.ref cda) ct cc), osl⟩ ∧
    codeIn K (.ref cda) qn = true ∧ dV = .none ∧ (∀ env : Env, ∃ pl : Sem Bool, eval (.Call (.Attribute (.Call (.Name "super" p0) [] [] p1) "__init__" p2) [] [] p3) env = (do
      let ov ← attributeBase (.Call (.Name "super" p0) [] [] p1) "__init__" env (eval (.Call (.Name "super" p0) [] [] p1) env)
      standAt p2.atName
      let (f, first) ← holding [ov] (getMethod ov "__init__" pl)
      callWith p3 f first (backTo p3 (starEach [] env)) [])) ∧
    (∃ cl cld csl, K.lookup cc = some ⟨cl, cld, .cell (some (.ref C)), csl⟩) ∧ ∃ (ccl : Value) (cdd : Option Addr) (vs : Array Value) (ccs : Array (Option Value)) (file : Str) (tf : Tok), K.lookup cda = some ⟨ccl, cdd, .fields vs, ccs⟩ ∧ vs[2]? = some (.str file tf) ∧ ((prog.main.file : Str) == file) = true
  mro : ∃ cd r, clsIn K C = some cd ∧ cd.mro = .ref C :: r ∧ alongIn K "__init__" r = some (some (.builtin "ValueError.__init__"))
  sb : subIn K (.ref C) (.type "ValueError") = some true
  own : mroIn K C (.ref C) = some true
  op : nsIn K cStatics "thirdparty.any" = some none
  sup : mg "super" = none
  top : (prog.main.scope.names.lookup ("super" : Str)).isSome = false
theorem zero_init {prog : Program} {w : World} {A : Around} {R : Result → Shared → Prop} {s : Shared} {K : PySem.W.Frag} {mg mb : Str → Option Value} {C fI x t0 : Addr} (Z : SupC prog K mg C fI) (T : OexC K C) (X : K.In s.heap) (lim : s.heap.NoLimit)
    (G : s.heap.Ns mainGlobals mg) (B : s.heap.Ns builtinsNs mb) (bs : mb "super" = some (.type "super")) (hx : s.heap.get? x = some (PySem.HandSPX.excO C t0)) (room : A.depth < recursionLimit)
    (fin : ∀ h1 tk t1, (∀ b o, b ≠ x → s.heap.get? b = some o → h1.get? b = some o) → h1.get? x = some (PySem.HandSPX.excO C t1) → R (.ok (.ret .none)) { s with heap := h1, toks := tk }) :
    codeAny (model prog w) A (.call (.ref fI) ⟨[.ref x], []⟩) R s := by
  obtain ⟨qn, p0, p1, p2, p3, p4, ap, dV, kV, doc, pm, ct, oc, an, od, cda, cc, osl, lf, lcode, hdV, hev, ⟨cl, cld, csl, lcc⟩, ccl, cdd, vs, ccs, file, tf, lcd, hvs, hfile⟩ := Z.fn
  obtain ⟨cd, r, hcd, hmro, hal⟩ := Z.mro
  obtain ⟨nm, q, N, bss, bm, sn, sub, ab, col, dd, k0, k1, k2, k3, k5, hC, hbm⟩ := T.cls
  have hcd2 : cd = { name := nm, bases := bss, mro := .ref C :: bm, ns := N, qualname := q, hasDict := true, slotNames := sn, subclasses := sub, abstract := ab, collection := col, hasDel := false } := by
    unfold clsIn at hcd; rw [hC] at hcd; exact (Option.some.inj hcd).symm
  have hbr : bm = r := by rw [hcd2] at hmro; exact (List.cons.inj hmro).2
  have hk : scS.kind = .function := rfl
  have nS : scS.names.lookup ("self" : Str) = some .local := by decide +kernel
  have nU : scS.names.lookup ("super" : Str) = some .globalImplicit := by decide +kernel
  have nC : scS.names.lookup ("__class__" : Str) = some .free := by decide +kernel
  refine ks_codeAny_call_defAt (binds := [("self", .ref x)]) room (X _ _ lf) rfl lim (codeRec_of X lcode) rfl (BindsTo.of_eq (by subst hdV; rfl)) (show ∀ x ∈ scS.names, x.2 ≠ .cell by decide +kernel) (fun y hy => by rw [List.mem_singleton.mp hy]; exact nS) (fun h1 ns1 kp1 => ?_) rfl rfl hk
  have X1 : K.In h1 := X.keeps kp1
  have hx1 := kp1 _ _ hx
  have hC1 := X1 _ _ hC
  refine ks_wpAt_execs_cons (ks_wpAt_Expr_any ?_ (by rfl) (by rfl))
  obtain ⟨pl, hpl⟩ := hev (callEnv (ksFn "__init__" qn { posonlyargs := [], args := [{ arg := "self", annotation := none, pos := ap }], vararg := none, kwonlyargs := [], kw_defaults := [], kwarg := none, defaults := [] } [.Expr (.Call (.Attribute (.Call (.Name "super" p0) [] [] p1) "__init__" p2) [] [] p3) p4] scS dV kV doc pm an (.ref cda) ct cc) s.heap.objs.size fI)
  refine ks_wpAt_MethodCall ?_ hpl
  refine ks_wpAt_super_base (prog := prog) nU nC (by decide) rfl (X1 _ _ lf) rfl rfl rfl (X1 _ _ lcd) rfl hvs hfile Z.top ?_
  refine ks_loadName_global hk nU (PySem.Calls.loadGlobal_builtin (mg := mg) (mb := mb) (G.keeps kp1) Z.sup (B.keeps kp1) bs ⟨rfl, ?_⟩)
  refine wpAny_loadName_free hk nC rfl ⟨_, X1 _ _ lcc, rfl⟩ (wpAny_loadName_local hk nS ns1 (by rfl) ?_)
  refine ks_wpAny_isType_cls hC1 rfl ⟨rfl, ?_⟩
  refine ks_wpAny_call_super hC1 rfl hx1 rfl (fun c => by intro z; cases z) (looks_mroIn X1 Z.own) (fun h2 lso kp2 => ?_)
  have X2 : K.In h2 := X1.keeps kp2
  have hx2 := kp2 _ _ hx1
  have hI : Looks (model prog w) h2 (isInstance (.ref x) (.type "ValueError")) true := by
    have J : InstAt h2 x (PySem.HandSPX.excO C t0) C none := ⟨hx2, rfl, rfl, trivial⟩
    exact J.type.andThen (looks_subIn X2 Z.sb)
  have hxC : x ≠ C := by
    intro z
    have e := X1 _ _ hC
    rw [← z, hx1] at e
    cases e
  refine kxs_getMethod kxs_ValueError lso (looks_opaque X2 Z.op) (l₀ := cd.mro) (l := r) (fun A' Q' E' s' k' q' => wpAny_bind ((looks_clsIn X2 hcd) A' _ E' s' k' (wpAny_pure q'))) ?_ X2 hal hI hxC (by decide) ?_
  · rw [hmro]; simp [List.dropWhile_cons]
  refine kxs_callWith (i := "ValueError.__init__") (x := x) (by rfl) (evalArgs_empty ⟨Heap.get?_push_at rfl rfl, ?_⟩)
  have up : ∀ b o, h2.get? b = some o → (h2.push (kxs_mw "ValueError.__init__" x)).get? b = some o := fun b o e => Heap.get?_push_of_some _ e
  refine bound_called (up _ _ (kp2 _ _ hC1)) (up _ _ hx2) (Heap.get?_push_at rfl rfl) (fun h3 t1 kp3 e3 => ?_)
  show _root_.PySem.wpAt _ _ _ (execs [] _) _ _ _
  refine wpAt_of_wpAny (wpAny_execs_nil ?_)
  exact fin h3 _ t1 (fun b o nb e => kp3 b o nb (up _ _ (kp2 _ _ (kp1 _ _ e)))) e3
end Me
namespace Me
open PySem PySem.Spec PyProof.Rows L2
/-- C(), C an error's class without fields -/
theorem pmk_zero {X : Cx} {x : Str} {C fI : Addr} {p pos : Pos} (T : OexC X.K C) (Z : SupC X.prog X.K X.mg C fI) (iC : PySem.W.findIn X.K (.ref C) "__init__" = some (some (.ref fI))) (tI : PySem.W.typeIn X.K (.ref fI) = some (.type "function")) (hr : Room 1 X.A)
    (hm : X.mg x = some (.ref C)) (hg : Gl X x := by rfl) (hdb : (x == ("__debug__" : Str)) = false := by decide) : PMk X (.Call (.Name x p) [] [] pos) (fun _ H Q => Q (.ref C) none H) := by
  intro pins s σ H Q I h
  obtain ⟨nm, q, N, bss, bm, sn, sub, ab, col, dd, k0, k1, k2, k3, k5, hC, hbm⟩ := T.cls
  refine wpAny_Call_Name_kw (ld_glob I hg hm (PySem.W.callWith_K0 I.kIn T.kC ?_) hdb)
  show wpAny _ _ (call (.ref C) []) _ _ _
  obtain ⟨mb, hb1, hb2⟩ := I.mod.blt
  have KX := I.kIn
  have lim := I.nolimit
  have GG := I.mod.glob.keeps I.bk
  have BB := hb1.keeps I.bk
  obtain ⟨hp, g, dr, tk, os⟩ := s
  have old : ∀ b o, hp.get? b = some o → ((hp.push (PySem.W.kdv_tup [])).push (PySem.HandSPX.excO C hp.objs.size)).get? b = some o := fun b o e => Heap.get?_push_of_some _ (Heap.get?_push_of_some _ e)
  have here : ((hp.push (PySem.W.kdv_tup [])).push (PySem.HandSPX.excO C hp.objs.size)).get? (hp.objs.size + 1) = some (PySem.HandSPX.excO C hp.objs.size) := by heap_get
  refine wpAny_call (PySem.HandSPX.call_own F.excBase_ValueError (fun Y => PySem.HandSPX.refsVE_contains Y bm hbm) (KX _ _ hC) (PySem.W.looks_findIn KX iC) (fun self => PySem.W.bind_fn KX self tI) (Nat.zero_le _) ?_)
  refine zero_init (s := ⟨(hp.push (PySem.W.kdv_tup [])).push (PySem.HandSPX.excO C hp.objs.size), g, dr, tk, os⟩) (mg := X.mg) (mb := mb) Z T (KX.keeps old) (lim.keeps old) (GG.keeps old) (BB.keeps old) ((hb2 _ (by decide)).trans (by decide +kernel)) here ?_ (fun h1 tk1 t1 kp e1 => ?_)
  · show (X.A.under (.builtin "type.__call__" ⟨.ref C :: [], []⟩)).depth < recursionLimit
    rw [make_depth]
    have := hr.dp
    omega
  · have stay : ∀ b o, hp.get? b = some o → h1.get? b = some o := fun b o e => kp b o (Nat.ne_of_lt (Nat.lt_succ_of_lt (Heap.lt_size e))) (old b o e)
    refine ⟨rfl, ?_⟩
    obtain ⟨G1, g1, g2⟩ := restrict h1 fun b => decide (b ≠ hp.objs.size + 1)
    have gk : ∀ b, b ≠ hp.objs.size + 1 → G1.get? b = h1.get? b := fun b hb => g1 b (decide_eq_true hb)
    have ge : G1.get? (hp.objs.size + 1) = none := g2 _ (by simp)
    have J : Inv X pins σ H ⟨G1, g, dr, tk1, os⟩ := I.kept (h' := G1) (t' := tk1) fun b o e => (gk b (Nat.ne_of_lt (Nat.lt_succ_of_lt (Heap.lt_size e)))).trans (stay b o e)
    refine ⟨hp.objs.size + 1, _, _, ⟨G1, g, dr, tk1, os⟩, H, .ref C, none, rfl, J, fun b o e => ?_, ge, e1, ⟨rfl, rfl⟩, rfl, rfl, I.hok.fresh (Nat.le_succ _), rfl, I.bare, raises_own T.exC T.tyC, h⟩
    by_cases hb : b = hp.objs.size + 1
    · have e2 : G1.get? b = some o := e
      rw [hb, ge] at e2
      cases e2
    · exact (gk b hb).symm.trans e
end Me
set_option maxHeartbeats 4000000
namespace Me
open PySem PySem.Spec PyProof.Rows L2
/-! ### a def that is handed the exception that its caller's suite holds -/
structure FnP (P : Program) (w : World) (K : PySem.W.Frag) (mg : Str → Option Value) (base : Heap) (k : Nat) (f : Addr) (fd : FuncData) (ps : List Str) (sp : Addr × Obj → Sp) : Prop where
  len : ∀ p vs H Q E, sp p vs H Q E → vs.length = ps.length
  run : ∀ (A : Around) (outer : List Env) (s : Shared) (H : Hp) (args : Args) (us : List Value) (vs : List V) (Q : VK) (E : XK) (p : Addr × Obj), L2H.RoomH k A → L2H.PinOk outer H s p → Env0 P w K mg base A outer s H → BindsTo s fd args (ps.zip us) → Vals vs us → sp p vs H Q E →
    codeAny (model P w) A (.call (.ref f) args) (CR CX0 outer P w H s Q E) s
theorem okP {P : Program} {w : World} {K : PySem.W.Frag} {mg : Str → Option Value} {base : Heap} {x qual : Str} {params : Arguments} {body : List Stmt} {scope : Scope} {f : Addr} {fd : FuncData} {N ps : List Str} {k : Nat} {sp : Addr × Obj → Sp}
    (F : FunD K x qual params body scope [] [] f fd) (S : FnScope N ps scope) (len : ∀ p vs H Q E, sp p vs H Q E → vs.length = ps.length)
    (go : ∀ (cdv : Value) (A : Around) (outer : List Env) (s : Shared) (H : Hp) (vs : List V) (Q : VK) (E : XK) (p : Addr × Obj), L2H.RoomH k (A.deeper (envOfC qual scope s.heap.objs.size f cdv)) → sp p vs H Q E →
      ∃ t, PSs (L2H.cxH CX0 P w K mg base N qual scope f cdv A outer s H E p) body t ∧ t { nx := fun _ H' => Q .non H', rt := Q } (L2.start N vs) H) : FnP P w K mg base (k + 1) f fd ps sp := by
  obtain ⟨oc, od, dV, kV, doc, pm, an, cdv, ct, osl, rfl, lk, hcd, _, _⟩ := F.ex
  refine ⟨len, fun A outer s H args us vs Q E p room pin e0 hbd rv hsp => ?_⟩
  have ll := len _ _ _ _ _ hsp
  have kin : K.In s.heap := e0.mod.kin.keeps fun b o z => (e0.bs b o z).1
  have lim : s.heap.NoLimit := e0.mod.nolimit.keeps fun b o z => (e0.bs b o z).1
  have knd : ∀ y ∈ ps.zip us, scope.names.lookup y.1 = some .local ∨ (scope.names.lookup y.1 = some .cell ∧ ((cellsFrom (s.heap.objs.size + 1) scope.names []).lookup y.1).isSome = true) := by
    rintro ⟨n, v⟩ hy
    cases S.par n (List.of_mem_zip hy).1 with
    | inl q => exact .inl q
    | inr q => exact .inr ⟨q, PySem.W.cellsFrom_some _ _ _ (.inl q)⟩
  refine codeAny_call_function room.depth (kin _ _ lk) rfl S.co S.gen rfl (PySem.W.codeRec_of kin hcd) (hbd _ _ _ _ ?_)
  refine wpAny_newFunctionEnv_cells S.kind knd fun env he s1 inn => ?_
  subst he
  refine ⟨lim.keeps inn.toInCall.keep, codeAny_func ?_⟩
  obtain ⟨t, ht, hq⟩ := go cdv A outer s H vs Q E p (room.deeper _) hsp
  have I0 : Inv (L2H.cxH CX0 P w K mg base N qual scope f cdv A outer s H E p) [] (L2.start N vs) H s1 := L2H.inv_startH S pin e0 ll rv inn
  have out : ∀ {σ1 : L2.St} {H1 : Hp} {s2 : Shared} {v : V} {u : Value}, Inv (L2H.cxH CX0 P w K mg base N qual scope f cdv A outer s H E p) [] σ1 H1 s2 → RelV v u → Q v H1 → CE outer P w H s Q u s2 :=
    fun {σ1 H1 s2 v u} J r q => ⟨v, H1, J.os, J.bare, J.base, J.hok, r, q⟩
  refine wpAny_mono (ht.run [] s1 (L2.start N vs) H _ I0 hq) (fun fl s2 hs => ?_) fun e s2 hs => hs
  cases fl with
  | next => obtain ⟨σ1, H1, J, q⟩ := hs; exact out (v := V.non) (u := Value.none) J rfl q
  | ret u => obtain ⟨v, σ1, H1, J, r, q⟩ := hs; exact out J r q
  | brk => obtain ⟨_, _, _, q⟩ := hs; exact q.elim
  | cont => obtain ⟨_, _, _, q⟩ := hs; exact q.elim
section
variable {X : Cx} {k : Nat} {f : Addr} {fd : FuncData} {ps : List Str} {sp : Addr × Obj → Sp} {x : Str} {q pos : Pos} {e : Expr} {es : List Expr} {t : TA} {p : Addr × Obj}
theorem pe_callP (F : FnP X.prog X.w X.K X.mg X.base k f fd ps sp) (room : L2H.RoomH k X.A) (hp : p ∈ X.pn) (hg : Gl X x) (hm : X.mg x = some (.ref f)) (hk : PySem.W.keepIn X.K (.ref f) = true) (hb : Binds X.K fd ps [])
    (ha : PA X (e :: es) t) (hdb : (x == ("__debug__" : Str)) = false := by decide) (he : starEach (e :: es) X.env = (false, eval e X.env) :: starEach es X.env := by rfl) (hpl : (backTo pos (starEach es X.env)).any (·.1) = false := by rfl) :
    PE X (.Call (.Name x q) (e :: es) [] pos) (tCall (sp p) [] E0 t) := by
  refine ⟨fun pins s σ H Q I h => wpAny_Call_Name_kw (ld_glob I hg hm ?_ hdb)⟩
  refine PySem.W.callWith_K (h₀ := X.base) I.ok.mod.kin hk (thn (ha.run pos pins s σ H _ I h) fun us s1 hh => ?_) he hpl
  obtain ⟨vs, H1, J, r, hsp⟩ := hh
  rw [List.append_nil] at hsp
  refine ⟨J.kIn, ?_⟩
  have ll : us.length = ps.length := by rw [← r.length]; exact F.len _ _ _ _ _ hsp
  have bd := hb s1 us J.kIn (by rw [List.append_nil]; exact ll)
  rw [List.append_nil] at bd
  have P1 := J.pin p (List.mem_append_left _ hp)
  have pin : L2H.PinOk X.stack H1 s1 p := ⟨P1.1, P1.2.1, fun hm => (List.mem_cons.mp (J.stkSub p.1 hm)).elim P1.2.2.1 P1.2.2.2.1, P1.2.2.2.2⟩
  refine wpAny_call (codeAny_mono (F.run X.A X.stack s1 H1 ⟨us, []⟩ us vs Q E0 p room pin J.env0 bd r hsp) fun r s2 hq => ?_)
  cases r with
  | error e => exact hq.elim
  | ok fl =>
    cases fl with
    | ret u => exact J.after hq
    | next => exact hq.elim
    | brk => exact hq.elim
    | cont => exact hq.elim
end
/-! ### isinstance, attributes of such an exception -/
/-- what the written part says of the class D for that -/
structure IsC (K : PySem.W.Frag) (D : Addr) : Prop where
  ga : PySem.W.findIn K (.ref D) "__getattribute__" = some (some (.builtin "BaseException.__getattribute__"))
  gg : PySem.W.findIn K (.ref D) "__getattr__" = some none
  sb : PySem.W.subIn K (.ref D) (.type "BaseException") = some true
  hd : PySem.W.hasDictIn K D = true
  cl : PySem.W.findIn K (.ref D) "__class__" = some (some (.builtin "object.__class__"))
  sg : PySem.W.specialIn K (.builtin "object.__class__") "__get__" = some (some (.builtin "getset_descriptor.__get__"))
  tk : PySem.W.takesIn K (.builtin "object.__class__") = some true
  mo : PySem.W.mroIn K D (.type "object") = some true
/-- the exception's own dict, where it has one -/
def DictOk (H : Hp) : Option Addr → Prop
  | none => True
  | some dd => ∃ fs, H dd = some (.xd fs)
theorem inst_of {X : Cx} {pins : List (Addr × Obj)} {σ : L2.St} {H : Hp} {s : Shared} {a D : Addr} {oe : Obj} {d : Option Addr} (I : Inv X pins σ H s) (hp : (a, oe) ∈ X.pn) (hz : Zc (.ref D) d oe) (hf : ∃ vs, oe.data = .fields vs) (hd : DictOk H d) :
    ∃ od, PySem.W.InstAt s.heap a oe D od := by
  have g := (I.pin (a, oe) (List.mem_append_left _ hp)).1
  obtain ⟨vs, hv⟩ := hf
  obtain ⟨oc, odc, oda, osl⟩ := oe
  obtain ⟨h1, h2⟩ := hz
  dsimp only at h1 h2 hv
  subst h1 h2 hv
  cases odc with
  | none => exact ⟨none, g, rfl, rfl, trivial⟩
  | some dd =>
    obtain ⟨fs, hdd⟩ := hd
    obtain ⟨mA, ⟨o, es, ep, ho, _⟩, _⟩ := (show ObjOk X.prog X.w H s.heap dd (.xd fs) from I.hok dd _ hdd)
    exact ⟨some o, g, rfl, rfl, ho⟩
def rIsP (K : PySem.W.Frag) (a D : Addr) (d : Option Addr) : List V → Hp → VK → Prop := fun xs H Q => ∃ (c : V) (cv : Value) (b : Bool), xs = [.ref a, c] ∧ ClsV c cv ∧ PySem.W.kitOne K (.ref D) cv = some b ∧ DictOk H d ∧ Q (.bl b) H
theorem call_isP {X : Cx} {a D : Addr} {oe : Obj} {d : Option Addr} (C : IsC X.K D) (hp : (a, oe) ∈ X.pn) (hz : Zc (.ref D) d oe) (hf : ∃ vs, oe.data = .fields vs) : CallR X (.builtin "isinstance") (rIsP X.K a D d) := by
  intro pins s σ H xs us Q I r h
  obtain ⟨c, cv, b, rfl, kc, e, hd, q⟩ := h
  obtain ⟨u1, u2, rfl, r1, r2⟩ := vals2 r
  have e2 := kc.eq r2
  subst e2
  cases (show u1 = Value.ref a from r1)
  obtain ⟨od, J⟩ := inst_of I hp hz hf hd
  have hcl : (PySem.W.clsIn X.K D).isSome = true := by
    obtain ⟨cd, hc, _⟩ := PySem.W.any_some C.hd
    rw [hc]; rfl
  exact PySem.W.kia_one (PySem.W.kitx_exc (od := od) (ox := oe) hcl C.ga C.gg C.sb C.cl C.sg C.tk C.mo) I.kIn J e (fun z => nomatch z) fun tk => ⟨.bl b, H, I.tok tk, rfl, q⟩
/-- e.f -/
def tXp (a : Addr) (d : Option Addr) (f : Str) (te : TE) : TE := fun σ H Q => te σ H fun x H1 => x = .ref a ∧ ∃ (dd : Addr) (fs : List (Str × V)) (v : V), d = some dd ∧ H1 dd = some (.xd fs) ∧ fs.lookup f = some v ∧ Q v H1
theorem pe_xP {X : Cx} {a D : Addr} {oe : Obj} {d : Option Addr} {e : Expr} {te : TE} {pos : Pos} {n : Str} (C : IsC X.K D) (hno : PySem.W.findIn X.K (.ref D) n = some none) (hp : (a, oe) ∈ X.pn) (hz : Zc (.ref D) d oe) (hf : ∃ vs, oe.data = .fields vs) (he : PE X e te)
    (hb : attributeBase e n X.env (eval e X.env) = eval e X.env := by rfl) : PE X (.Attribute e n pos) (tXp a d n te) := by
  refine ⟨fun pins s σ H Q I h => attr_of hb (thn (he.run pins s σ H _ I h) fun u s1 hh => ?_)⟩
  obtain ⟨x, H1, J, rx, ex, dd, fs, v, ed, ea, l, q⟩ := hh
  subst ex
  obtain rfl : u = Value.ref a := rx
  subst ed
  have g := (J.pin (a, oe) (List.mem_append_left _ hp)).1
  obtain ⟨vs, hv⟩ := hf
  obtain ⟨mA, hns, hr⟩ := (show ObjOk X.prog X.w H1 s1.heap dd (.xd fs) from J.hok dd _ ea)
  obtain ⟨od, ho, hl⟩ := lookIn_ns hns
  obtain ⟨u, hu, ru⟩ := RelO.some_of (v := v) (o := mA n) (by rw [← l]; exact hr n)
  have T : PySem.W.InstAt s1.heap a oe D (some od) := ⟨g, hz.1, by unfold PySem.W.notCls; rw [hv] <;> rfl, by rw [hz.2]; exact ho⟩
  exact HandSPX.exc_get J.kIn T C.ga C.gg C.sb (PySem.W.findObj_own C.hd hno rfl (by rw [hl, hu])) (handed_of ru) ⟨v, H1, J.tok _, ru, q⟩
end Me
set_option maxHeartbeats 4000000
namespace Me
open PySem L2
structure DA where
  f : Addr
  fd : FuncData
/-- a def of the text -/
structure Df (K : PySem.W.Frag) (mg : Str → Option Value) (x : Str) (st : Stmt) (ps : List Str) (d : DA) : Prop where
  fn : FunD K x x (defArgs st) (defBody st) (defScope st) [] [] d.f d.fd
  mg : mg x = some (.ref d.f)
  b : Binds K d.fd ps []
theorem Df.kp {K : PySem.W.Frag} {mg : Str → Option Value} {x : Str} {st : Stmt} {ps : List Str} {d : DA} (h : Df K mg x st ps d) : PySem.W.keepIn K (.ref d.f) = true := h.fn.kp
theorem ok0 {P : Program} {w : World} {K : PySem.W.Frag} {mg : Str → Option Value} {base : Heap} {x qual : Str} {params : Arguments} {body : List Stmt} {scope : Scope} {f : Addr} {fd : FuncData} {N ps : List Str} {k : Nat} {sp : Sp} (F : FunD K x qual params body scope [] [] f fd) (S : FnScope N ps scope) (len : ∀ vs H Q E, sp vs H Q E → vs.length = ps.length)
    (go : ∀ (cdv : Value) (A : Around) (outer : List Env) (s : Shared) (H : Hp) (vs : List V) (Q : VK) (E : XK), Room k (A.deeper (PyProof.Rows.envOfC qual scope s.heap.objs.size f cdv)) → sp vs H Q E →
      ∃ t, PSs (cxOf CX0 P w K mg base N qual scope f cdv A outer s H E).nox body t ∧ t { nx := fun _ H' => Q .non H', rt := Q } (start N vs) H) : FnOk P w K mg base CX0 (k + 1) f fd ps sp := by
  refine F.ok S len fun cdv A outer s H vs Q E hr h => ?_
  obtain ⟨t, h1, q⟩ := go cdv A outer s H vs Q E hr h
  exact ⟨t, h1.nox, q⟩
theorem Df.ok {P : Program} {w : World} {K : PySem.W.Frag} {mg : Str → Option Value} {base : Heap} {x : Str} {st : Stmt} {ps ps' N : List Str} {d : DA} {k : Nat} {sp : Sp} (D : Df K mg x st ps' d) (S : FnScope N ps (defScope st)) (len : ∀ vs H Q E, sp vs H Q E → vs.length = ps.length)
    (go : ∀ (cdv : Value) (A : Around) (outer : List Env) (s : Shared) (H : Hp) (vs : List V) (Q : VK) (E : XK), Room k (A.deeper (PyProof.Rows.envOfC x (defScope st) s.heap.objs.size d.f cdv)) → sp vs H Q E →
      ∃ t, PSs (cxOf CX0 P w K mg base N x (defScope st) d.f cdv A outer s H E).nox (defBody st) t ∧ t { nx := fun _ H' => Q .non H', rt := Q } (start N vs) H) : FnOk P w K mg base CX0 (k + 1) d.f d.fd ps sp := ok0 D.fn S len go
theorem Df.okX {P : Program} {w : World} {K : PySem.W.Frag} {mg : Str → Option Value} {base : Heap} {x : Str} {st : Stmt} {ps ps' N : List Str} {d : DA} {k : Nat} {sp : Sp} (D : Df K mg x st ps' d) (S : FnScope N ps (defScope st)) (len : ∀ vs H Q E, sp vs H Q E → vs.length = ps.length)
    (go : ∀ (cdv : Value) (A : Around) (outer : List Env) (s : Shared) (H : Hp) (vs : List V) (Q : VK) (E : XK), Room k (A.deeper (PyProof.Rows.envOfC x (defScope st) s.heap.objs.size d.f cdv)) → sp vs H Q E →
      ∃ t, PSs (cxOf (L2.CX P w) P w K mg base N x (defScope st) d.f cdv A outer s H E) (defBody st) t ∧ t { nx := fun _ H' => Q .non H', rt := Q } (start N vs) H) : FnOk P w K mg base (L2.CX P w) (k + 1) d.f d.fd ps sp := D.fn.ok S len go
/-! ### the errors -/
/-- what the written part says of the i-th error -/
structure Er (P : Program) (K : PySem.W.Frag) (mg : Str → Option Value) (C : Nat → Addr) (I : Nat → DA) (rm : Addr) (i : Nat) : Prop where
  ox : OexC K (C i)
  gl : mg (nmOf i) = some (.ref (C i))
  is : IsC K (C i)
  ex : PySem.W.exmOne K (.ref (C i)) (.ref rm) = some true
  ve : PySem.W.kitOne K (.ref (C i)) (.type "ValueError") = some true
  kt : ∀ j, j < 24 → PySem.W.kitOne K (.ref (C i)) (.ref (C j)) = some (decide (i = j))
  no : ∀ f ∈ fsOf i, PySem.W.findIn K (.ref (C i)) f = some none
  noA : ∀ f ∈ allF, PySem.W.findIn K (.ref (C i)) f = some none
  ini : PySem.W.findIn K (.ref (C i)) "__init__" = some (some (.ref (I i).f))
  ti : PySem.W.typeIn K (.ref (I i).f) = some (.type "function")
  fn : fsOf i ≠ [] → FunD K "__init__" (nmOf i ++ ".__init__") (defArgs (iniOf i)) (defBody (iniOf i)) (defScope (iniOf i)) [] [] (I i).f (I i).fd ∧ Binds K (I i).fd ("self" :: fsOf i) []
  sup : fsOf i = [] → SupC P K mg (C i) (I i).f
def spI1 (C : Addr) (f : Str) : Sp := fun vs H Q _ => ∃ (a : Addr) (y : V), vs = [.ref a, y] ∧ H a = some (exo a C none) ∧ ∀ dx, H dx = none → dx ≠ a → Q .non (upd (upd H dx (exd dx [(f, y)])) a (exo a C (some dx)))
def spI2 (C : Addr) (f g : Str) : Sp := fun vs H Q _ => ∃ (a : Addr) (y z : V), vs = [.ref a, y, z] ∧ H a = some (exo a C none) ∧ ∀ dx, H dx = none → dx ≠ a → Q .non (upd (upd (upd H dx (exd dx [(f, y)])) a (exo a C (some dx))) dx (exd dx [(g, z), (f, y)]))
section
variable {P : Program} {w : World} {K : PySem.W.Frag} {mg : Str → Option Value} {base : Heap} {C : Nat → Addr} {I : Nat → DA} {rm : Addr}
theorem ini1 {i : Nat} {f : Str} (E : Er P K mg C I rm i) (hf : fsOf i = [f]) (S : FnScope (["self", f] : List Str) ["self", f] (defScope (iniOf i)))
    (tm : ∀ (cdv : Value) (A : Around) (outer : List Env) (s : Shared) (H : Hp) (E : XK), PSs (cxOf CX0 P w K mg base (["self", f] : List Str) (nmOf i ++ ".__init__") (defScope (iniOf i)) (I i).f cdv A outer s H E).nox (defBody (iniOf i)) (tOst K f (tVar 0) (tVar 1))) : FnOk P w K mg base CX0 1 (I i).f (I i).fd (["self", f] : List Str) (spI1 (C i) f) := by
  obtain ⟨F, _⟩ := E.fn (by rw [hf]; simp)
  refine ok0 F S (fun vs H Q E h => ?_) (fun cdv A outer s H vs Q E' hr h => ?_)
  · obtain ⟨a, y, rfl, _⟩ := h
    rfl
  · obtain ⟨a, y, rfl, e, k⟩ := h
    refine ⟨_, tm _ _ _ _ _ _, ?_⟩
    exact ⟨_, rfl, _, rfl, a, C i, rfl, E.ox, E.no f (by rw [hf]; simp), .inl ⟨e, fun dx n ne => k dx n ne⟩⟩
theorem ini2 {i : Nat} {f g : Str} (E : Er P K mg C I rm i) (hf : fsOf i = [f, g]) (S : FnScope (["self", f, g] : List Str) ["self", f, g] (defScope (iniOf i)))
    (tm : ∀ (cdv : Value) (A : Around) (outer : List Env) (s : Shared) (H : Hp) (E : XK), PSs (cxOf CX0 P w K mg base (["self", f, g] : List Str) (nmOf i ++ ".__init__") (defScope (iniOf i)) (I i).f cdv A outer s H E).nox (defBody (iniOf i)) (tSeq (tOst K f (tVar 0) (tVar 1)) (tOst K g (tVar 0) (tVar 2)))) : FnOk P w K mg base CX0 1 (I i).f (I i).fd (["self", f, g] : List Str) (spI2 (C i) f g) := by
  obtain ⟨F, _⟩ := E.fn (by rw [hf]; simp)
  refine ok0 F S (fun vs H Q E h => ?_) (fun cdv A outer s H vs Q E' hr h => ?_)
  · obtain ⟨a, y, z, rfl, _⟩ := h
    rfl
  · obtain ⟨a, y, z, rfl, e, k⟩ := h
    refine ⟨_, tm _ _ _ _ _ _, ?_⟩
    refine ⟨_, rfl, _, rfl, a, C i, rfl, E.ox, E.no f (by rw [hf]; simp), .inl ⟨e, fun dx n ne => ?_⟩⟩
    refine ⟨_, rfl, _, rfl, a, C i, rfl, E.ox, E.no g (by rw [hf]; simp), .inr ⟨dx, _, upd_same, ?_, ?_, k dx n ne⟩⟩
    · rw [upd_ne ne, upd_same]
    · show 1 ≤ 900; decide
end
end Me
set_option maxHeartbeats 4000000
namespace Me
open PySem L2
theorem PS.imp {X : Cx} {st : Stmt} {t t' : TS} (h : PS X st t) (i : ∀ D σ H, t' D σ H → t D σ H) : PS X st t' := ⟨fun pins s σ H D I q => h.run pins s σ H D I (i D σ H q)⟩
/-- an error of the class at C with these fields is on its way -/
def thrown (C : Addr) (fs : List (Str × V)) (W : Value → Option Addr → Hp → Prop) (H : Hp) : Prop := match fs with
  | [] => W (.ref C) none H
  | p :: r => ∀ d, H d = none → W (.ref C) (some d) (upd H d (.xd (p :: r)))
/-- the fields of the i-th error, made of these two -/
def fvs (i : Nat) (y z : V) : List (Str × V) := match fsOf i with
  | [] => []
  | [f] => [(f, y)]
  | f :: g :: _ => [(g, z), (f, y)]
def tThr (C : Nat → Addr) (i : Nat) (W : WX) : TS := fun _ σ H => ∃ y z, σ[1]? = some (some y) ∧ σ[2]? = some (some z) ∧ thrown (C i) (fvs i y z) (fun c d H' => W c d σ H') H
theorem ne_none {H : Hp} {a b : Addr} {o : HO} (h' : H a = none) (h : H b = some o) : b ≠ a := ne_of_none h h'
theorem heap1 {H : Hp} {a dx : Addr} {o1 o2 o3 o : HO} (ha : H a = none) (hd : dx ≠ a) : upd (del (upd (upd (upd H a o1) dx o2) a o3) a) dx o = upd H dx o := by
  funext b
  by_cases h1 : b = dx
  · subst h1; rw [upd_same, upd_same]
  · rw [upd_ne h1, upd_ne h1]
    by_cases h2 : b = a
    · subst h2; rw [del_same, ha]
    · rw [del_ne h2, upd_ne h2, upd_ne h1, upd_ne h2]
theorem heap2 {H : Hp} {a dx : Addr} {o1 o2 o3 o4 o : HO} (ha : H a = none) (hd : dx ≠ a) : upd (del (upd (upd (upd (upd H a o1) dx o2) a o3) dx o4) a) dx o = upd H dx o := by
  funext b
  by_cases h1 : b = dx
  · subst h1; rw [upd_same, upd_same]
  · rw [upd_ne h1, upd_ne h1]
    by_cases h2 : b = a
    · subst h2; rw [del_same, ha]
    · rw [del_ne h2, upd_ne h1, upd_ne h2, upd_ne h1, upd_ne h2]
section
variable {X : Cx} {C : Nat → Addr} {I : Nat → DA} {rm : Addr} {i : Nat} {x f g : Str} {W : WX} {p pos pos2 : Pos} {a b : Expr}
theorem ps_thr0 (E : Er X.prog X.K X.mg C I rm i) (hf : fsOf i = []) (hx : nmOf i = x) (hc : X.calm = true) (hr : Room 2 X.A) (tk : Takes X W) (hg : Gl X x) (hdb : (x == ("__debug__" : Str)) = false := by decide) :
    PS X (.Raise (some (.Call (.Name x p) [] [] pos)) none pos2) (tThr C i W) := by
  subst hx
  refine PS.imp (ps_raise hc tk (pmk_zero E.ox (E.sup hf) E.ini E.ti (hr.mono (by decide)) E.gl hg hdb)) fun D σ H h => ?_
  obtain ⟨y, z, _, _, q⟩ := h
  have e : fvs i y z = [] := by unfold fvs; rw [hf]
  rw [e] at q
  exact q
theorem ps_thr1 (E : Er X.prog X.K X.mg C I rm i) (hf : fsOf i = [f]) (hx : nmOf i = x) (hc : X.calm = true) (G : FnOk X.prog X.w X.K X.mg X.base CX0 1 (I i).f (I i).fd (["self", f] : List Str) (spI1 (C i) f)) (hr : Room 2 X.A) (tk : Takes X W) (ha : PE X a (tVar 1)) (hg : Gl X x)
    (hdb : (x == ("__debug__" : Str)) = false := by decide) (hs : starEach [a] X.env = [(false, eval a X.env)] := by rfl) :
    PS X (.Raise (some (.Call (.Name x p) [a] [] pos)) none pos2) (tThr C i W) := by
  subst hx
  have bd := (E.fn (by rw [hf]; simp)).2
  rw [hf] at bd
  refine PS.imp (ps_raise hc tk (pmk_oex (dvs := []) E.ox E.ini E.ti G hr bd .nil pass0 hg E.gl (pa_cons ha pa_nil hs) hdb hs rfl)) fun D σ H h => ?_
  obtain ⟨y, z, e1, _, q⟩ := h
  have e : fvs i y z = [(f, y)] := by unfold fvs; rw [hf]
  rw [e] at q
  refine ⟨y, e1, ⟨by show 1 ≤ 1000; decide, fun a na => ⟨a, y, rfl, upd_same, fun dx hd ne => ⟨rfl, dx, [(f, y)], ?_, ?_, ?_, ?_⟩⟩⟩⟩
  · exact upd_same
  · rw [upd_ne ne, upd_same]
  · rw [upd_ne ne] at hd; exact hd
  · rw [heap1 na ne]
    rw [upd_ne ne] at hd
    exact q dx hd
theorem ps_thr2 (E : Er X.prog X.K X.mg C I rm i) (hf : fsOf i = [f, g]) (hx : nmOf i = x) (hc : X.calm = true) (G : FnOk X.prog X.w X.K X.mg X.base CX0 1 (I i).f (I i).fd (["self", f, g] : List Str) (spI2 (C i) f g)) (hr : Room 2 X.A) (tk : Takes X W) (ha : PE X a (tVar 1)) (hb : PE X b (tVar 2)) (hg : Gl X x)
    (hdb : (x == ("__debug__" : Str)) = false := by decide) (hs : starEach [b] X.env = [(false, eval b X.env)] := by rfl) (hs2 : starEach [a, b] X.env = (false, eval a X.env) :: starEach [b] X.env := by rfl) :
    PS X (.Raise (some (.Call (.Name x p) [a, b] [] pos)) none pos2) (tThr C i W) := by
  subst hx
  have bd := (E.fn (by rw [hf]; simp)).2
  rw [hf] at bd
  refine PS.imp (ps_raise hc tk (pmk_oex (dvs := []) E.ox E.ini E.ti G hr bd .nil pass0 hg E.gl (pa_cons ha (pa_cons hb pa_nil hs) hs2) hdb hs2 (by rw [hs]; rfl))) fun D σ H h => ?_
  obtain ⟨y, z, e1, e2, q⟩ := h
  have e : fvs i y z = [(g, z), (f, y)] := by unfold fvs; rw [hf]
  rw [e] at q
  refine ⟨y, e1, z, e2, ⟨by show 2 ≤ 1000; decide, fun a na => ⟨a, y, z, rfl, upd_same, fun dx hd ne => ⟨rfl, dx, [(g, z), (f, y)], ?_, ?_, ?_, ?_⟩⟩⟩⟩
  · rw [upd_ne (Ne.symm ne), upd_same]
  · exact upd_same
  · rw [upd_ne ne] at hd; exact hd
  · rw [heap2 na ne]
    rw [upd_ne ne] at hd
    exact q dx hd
end
/-! ### the text of k01 -/
structure Ad where
  C : Nat → Addr
  I : Nat → DA
  rm : Addr
  _law_is_int : DA
  _law_same_dict : DA
  _law_same : DA
  _law_start : DA
  _law_pull : DA
  _law_big : DA
  _law_field : DA
  _law_raise_first : DA
  _law_raise : DA
  _law_classes : DA
  _law_fields : DA
  _law_caught : DA
  law : DA
structure Txt (P : Program) (K : PySem.W.Frag) (mg : Str → Option Value) (a : Ad) : Prop where
  er : ∀ i, i < 24 → Er P K mg a.C a.I a.rm i
  rm : mg "RoomError" = some (.ref a.rm)
  len : mg "len" = none
  int : mg "int" = none
  bool : mg "bool" = none
  str : mg "str" = none
  dict : mg "dict" = none
  list : mg "list" = none
  tuple : mg "tuple" = none
  isinstance : mg "isinstance" = none
  range : mg "range" = none
  ValueError : mg "ValueError" = none
  _law_is_int : Df K mg "_law_is_int" (top 27) ["_law_told"] a._law_is_int
  _law_same_dict : Df K mg "_law_same_dict" (top 28) ["_law_told", "_law_due"] a._law_same_dict
  _law_same : Df K mg "_law_same" (top 29) ["_law_told", "_law_due"] a._law_same
  _law_start : Df K mg "_law_start" (top 30) ["_law_script"] a._law_start
  _law_pull : Df K mg "_law_pull" (top 31) ["_law_state", "_law_many"] a._law_pull
  _law_big : Df K mg "_law_big" (top 32) ["_law_state", "_law_many"] a._law_big
  _law_field : Df K mg "_law_field" (top 33) ["_law_state"] a._law_field
  _law_raise_first : Df K mg "_law_raise_first" (top 34) ["_law_which", "_law_one", "_law_other"] a._law_raise_first
  _law_raise : Df K mg "_law_raise" (top 35) ["_law_which", "_law_one", "_law_other"] a._law_raise
  _law_classes : Df K mg "_law_classes" (top 36) ["_law_e"] a._law_classes
  _law_fields : Df K mg "_law_fields" (top 37) ["_law_e", "_law_which"] a._law_fields
  _law_caught : Df K mg "_law_caught" (top 38) ["_law_which", "_law_one", "_law_other"] a._law_caught
  law : Df K mg "law" (top 39) ["_law_script"] a.law
end Me
local macro_rules | `(tactic| walk_at "kb") => `(tactic| first | with_reducible exact Me.kb_NoneType_int | with_reducible exact Me.kb_NoneType_bool | with_reducible exact Me.kb_NoneType_str | with_reducible exact Me.kb_NoneType_dict | with_reducible exact Me.kb_NoneType_list | with_reducible exact Me.kb_NoneType_tuple | with_reducible exact Me.kb_bool_int | with_reducible exact Me.kb_bool_bool | with_reducible exact Me.kb_bool_str | with_reducible exact Me.kb_bool_dict | with_reducible exact Me.kb_bool_list | with_reducible exact Me.kb_bool_tuple | with_reducible exact Me.kb_int_int | with_reducible exact Me.kb_int_bool | with_reducible exact Me.kb_int_str | with_reducible exact Me.kb_int_dict | with_reducible exact Me.kb_int_list | with_reducible exact Me.kb_int_tuple | with_reducible exact Me.kb_str_int | with_reducible exact Me.kb_str_bool | with_reducible exact Me.kb_str_str | with_reducible exact Me.kb_str_dict | with_reducible exact Me.kb_str_list | with_reducible exact Me.kb_str_tuple | with_reducible exact Me.kb_tuple_int | with_reducible exact Me.kb_tuple_bool | with_reducible exact Me.kb_tuple_str | with_reducible exact Me.kb_tuple_dict | with_reducible exact Me.kb_tuple_list | with_reducible exact Me.kb_tuple_tuple | with_reducible exact Me.kb_list_int | with_reducible exact Me.kb_list_bool | with_reducible exact Me.kb_list_str | with_reducible exact Me.kb_list_dict | with_reducible exact Me.kb_list_list | with_reducible exact Me.kb_list_tuple | with_reducible exact Me.kb_dict_int | with_reducible exact Me.kb_dict_bool | with_reducible exact Me.kb_dict_str | with_reducible exact Me.kb_dict_dict | with_reducible exact Me.kb_dict_list | with_reducible exact Me.kb_dict_tuple)
local macro_rules | `(tactic| walk_at "hp") => `(tactic| first | with_reducible assumption | with_reducible exact L2.upd_same | ((with_reducible refine' Me.upd_get ?n ?h); (case h => walk_at "hp"); (case n => walk_at "ne")) | ((with_reducible refine' Me.Went.get ?w ?n ?h); (case w => with_reducible assumption); (case h => walk_at "hp"); (case n => walk_at "ne")))
local macro_rules | `(tactic| walk_at "ne") => `(tactic| first | with_reducible assumption | ((with_reducible refine Ne.symm ?_); with_reducible assumption) | ((with_reducible refine' Me.ne_none ?n ?h); (case n => with_reducible assumption); (case h => walk_at "hp")) | ((with_reducible refine' Ne.symm (Me.ne_none ?n ?h)); (case n => with_reducible assumption); (case h => walk_at "hp")))
local macro_rules | `(tactic| walk_at "side") => `(tactic| first | rfl | assumption | omega | decide | (constructor <;> first | rfl | assumption | omega | decide) | (refine ⟨?_, ?_, ?_⟩ <;> first | omega | decide) | (refine Or.inl ⟨?_, ?_⟩ <;> first | omega | decide) | (refine Or.inr ⟨?_, ?_⟩ <;> first | omega | decide))
local macro_rules | `(tactic| walk_at "go1") => `(tactic| first
  | with_reducible refine Me.i_seq ?_ | with_reducible refine Me.i_var rfl ?_ | with_reducible refine Me.i_c ?_ | with_reducible refine Me.i_op ?_ | with_reducible refine Me.i_cons ?_ | with_reducible refine Me.i_nil ?_
  | with_reducible refine Me.i_cb ?_ | with_reducible refine Me.i_call ?_ | with_reducible refine Me.i_asg ?_ | with_reducible refine Me.i_gname ?_ | with_reducible refine Me.i_gsub ?_ | with_reducible refine Me.i_ret ?_ | with_reducible refine Me.i_retN ?_
  | with_reducible refine Me.i_drop ?_ | with_reducible refine Me.i_ifS ?_ | with_reducible refine Me.i_if ?_ | with_reducible refine Me.i_and ?_ | with_reducible refine Me.i_or ?_ | with_reducible refine Me.i_not ?_ | with_reducible refine Me.i_test ?_ | with_reducible refine Me.i_tB ?_
  | with_reducible refine Me.i_andV ?_ | with_reducible refine Me.i_orV ?_ | with_reducible refine Me.i_notV ?_ | with_reducible refine Me.i_next ?_ | with_reducible refine Me.i_un ?_ | with_reducible refine Me.i_lst ?_ | with_reducible refine Me.i_tup ?_ | with_reducible refine Me.i_dnew (fun _ _ => ?_)
  | with_reducible refine Me.i_rI0 ?_ | ((with_reducible refine Me.i_rI ?_ ?_); (walk_at "side")) | with_reducible refine Me.i_rU ?_ | with_reducible refine Me.i_rEq rfl ?_ | with_reducible refine Me.i_rNe rfl ?_
  | ((with_reducible refine' Me.i_ixl ?h ?e ?q); (case h => walk_at "hp"); (case e => rfl)) | ((with_reducible refine' Me.i_ixt ?h ?e ?q); (case h => walk_at "hp"); (case e => rfl)) | ((with_reducible refine' Me.i_setl ?h ?e ?q); (case h => walk_at "hp"); (case e => rfl))
  | with_reducible refine Me.i_bl ?_
  | with_reducible refine L2.iteT ?_ | with_reducible refine L2.iteF ?_
  | ((with_reducible refine' ⟨_, _, rfl, Or.inl (L2.SqL.of ?h), ?q⟩); (case h => walk_at "hp"))
  | ((with_reducible refine' ⟨_, _, rfl, Or.inr (L2.SqT.of ?h), ?q⟩); (case h => walk_at "hp"))
  | ((with_reducible refine' Me.i_isi ?t ?e ?q); (case t => walk_at "ty"); (case e => walk_at "kb"))
  | (with_reducible refine Or.inl ⟨_, rfl, ?_⟩)
  | ((with_reducible refine And.intro (a := List.length _ ≤ PySem.sizeLine) ?s (fun _ _ => ?q)); (case s => (simp only [List.length_cons, List.length_nil]; decide))))
local macro_rules | `(tactic| walk_at "ty") => `(tactic| first | exact L2.TyX.base L2.TyOf.non | exact L2.TyX.base (L2.TyOf.bl _) | exact L2.TyX.base (L2.TyOf.int _) | exact L2.TyX.base (L2.TyOf.str _) | ((refine' L2.TyX.base (L2.TyOf.tup ?h)); (case h => walk_at "hp")) | ((refine' L2.TyX.base (L2.TyOf.lst ?h)); (case h => walk_at "hp")) | ((refine' L2.TyX.base (L2.TyOf.dK ?h)); (case h => walk_at "hp")))
local macro_rules | `(tactic| walk_at "go") => `(tactic| repeat (walk_at "go1"))
set_option maxHeartbeats 4000000
namespace Me
open PySem L2
theorem at_ints {ns : List Int} {i : Int} (h0 : 0 ≤ i) (h1 : i < ((ns.map V.int).length : Int)) : ∃ z, atI (ns.map V.int) i = some (V.int z) := by
  obtain ⟨j, rfl⟩ := Int.eq_ofNat_of_zero_le h0
  have hj : j < ns.length := by rw [List.length_map] at h1; omega
  exact ⟨ns[j], atI_nat (by rw [List.getElem?_map, List.getElem?_eq_getElem hj]; rfl)⟩
theorem st_upd {H : Hp} {p L : Addr} {ns : List Int} {i b c : Int} {o : HO} (e : o = .lst [.ref L, .int i, .int b, .int c]) (n : L ≠ p) (hL : H L = some (.lst (ns.map V.int))) (hn : ns.length ≤ 63) (hi : 0 ≤ i) (hb : 0 ≤ b) (hc : 0 ≤ c) (hd : c < 2147483647) : StAt (upd H p o) p L :=
  ⟨ns, i, b, c, by rw [upd_same, e], by rw [upd_ne n]; exact hL, hn, hi, hb, hc, hd⟩
theorem fm {x m : Int} (h : 0 < m) : 0 ≤ x.fmod m ∧ x.fmod m < m := by
  rw [Int.fmod_eq_emod_of_nonneg _ (by omega)]
  exact ⟨Int.emod_nonneg _ (by omega), Int.emod_lt_of_pos _ h⟩
theorem fd {x m : Int} (hx : 0 ≤ x) (h : 0 < m) : 0 ≤ x.fdiv m := by
  rw [Int.fdiv_eq_ediv_of_nonneg _ (by omega)]
  exact Int.ediv_nonneg hx (by omega)
theorem Went.rfl' {p : Addr} {H : Hp} (h : StOk H p) : Went p H H := ⟨h, fun _ _ _ e => e, fun _ e => e⟩
theorem StAt.keep {p L : Addr} {H H' : Hp} (h : StAt H p L) (k : Same H H') : StAt H' p L := by
  obtain ⟨ns, i, b, c, h1, h2, h3⟩ := h
  exact ⟨ns, i, b, c, k _ _ h1, k _ _ h2, h3⟩
theorem StOk.keep {p : Addr} {H H' : Hp} (h : StOk H p) (k : Same H H') : StOk H' p := h.imp fun _ q => q.keep k
theorem Went.new {p q : Addr} {H H' : Hp} {o : HO} (w : Went p H H') (n : H' q = none) : Went p H (upd H' q o) := by
  have k : Same H' (upd H' q o) := fun b u e => by rw [upd_ne (ne_of_none e n)]; exact e
  exact ⟨w.1.keep k, fun a u ne e => k _ _ (w.2.1 a u ne e), fun L e => (w.2.2 L e).keep k⟩
/-- an object that was not there at first is written -/
theorem Went.wr {p q : Addr} {H H' : Hp} {o : HO} (S : StOk H p) (w : Went p H H') (n : H q = none) (nq : q ≠ p) : Went p H (upd H' q o) := by
  obtain ⟨L, hL⟩ := S
  have h' := w.2.2 L hL
  have nL : L ≠ q := by obtain ⟨_, _, _, _, _, e, _⟩ := hL; exact ne_of_none e n
  refine went_mk hL ?_ fun a u ne e => by rw [upd_ne (ne_of_none e n)]; exact w.2.1 a u ne e
  obtain ⟨ns, i, b, c, h1, h2, h3⟩ := h'
  exact ⟨ns, i, b, c, by rw [upd_ne nq.symm]; exact h1, by rw [upd_ne nL]; exact h2, h3⟩
theorem StOk.ne {H : Hp} {p q : Addr} (S : StOk H p) (n : H q = none) : q ≠ p := by
  obtain ⟨L, _, _, _, _, e, _⟩ := S
  exact fun z => by rw [z, e] at n; cases n
theorem Went.none {p q : Addr} {H H' : Hp} (w : Went p H H') (n : H' q = none) (nq : q ≠ p) : H q = none := by
  cases e : H q with
  | none => rfl
  | some o => rw [w.2.1 q o nq e] at n; cases n
theorem at_mem {xs : List V} {i : Int} (h0 : 0 ≤ i) (h1 : i < (xs.length : Int)) : ∃ v, atI xs i = some v ∧ v ∈ xs := by
  obtain ⟨j, rfl⟩ := Int.eq_ofNat_of_zero_le h0
  have hj : j < xs.length := by omega
  exact ⟨xs[j], atI_nat (List.getElem?_eq_getElem hj), List.getElem_mem hj⟩


section
variable {P : Program} {w : World} {K : PySem.W.Frag} {mg : Str → Option Value} {base : Heap} {a : Ad}
def spPull : Sp := fun vs H Q _ => ∃ (p : Addr) (m : Int), vs = [.ref p, .int m] ∧ StOk H p ∧ 0 < m ∧ m < 1073741824 ∧ ∀ (r : Int) (H' : Hp), 0 ≤ r → r < m → Went p H H' → Q (.int r) H'
theorem ok_pull (T : Txt P K mg a) : FnOk P w K mg base CX0 1 a._law_pull.f a._law_pull.fd ["_law_state", "_law_many"] spPull := by
  have sc : FnScope ["_law_state", "_law_many", "_law_cell", "_law_number"] ["_law_state", "_law_many"] (defScope (top 31)) := ⟨rfl, rfl, rfl, by decide +kernel, rfl, by decide +kernel, by decide +kernel⟩
  refine T._law_pull.ok sc (fun vs H Q E h => ?_) (fun cdv A outer s H vs Q E hr h => ?_)
  · obtain ⟨p, m, rfl, _⟩ := h
    rfl
  · obtain ⟨p, m, rfl, S, hm0, hm1, k⟩ := h
    have S0 := S
    obtain ⟨L, SL⟩ := S
    obtain ⟨ns, i, b, c, hp, hL, hn, hi, hb, hc0, hc1⟩ := id SL
    refine ⟨_, (pss_cons (ps_if (PW.pt (pw_and (pt_cmpR op_eq (pe_ix ix_list (pv 0) pe_int (fun _ _ => rfl)) pe_int (nomark _)) (pw_and1 (pt_cmpR op_lt (pe_ix ix_list (pv 0) pe_int (fun _ _ => rfl)) (pe_callB call_len_seq (by rfl) T.len PySem.boot_len (pa_cons (pe_ix ix_list (pv 0) pe_int (fun _ _ => rfl)) pa_nil)) (nomark _)))))
      (pss_cons (ps_set (i := 2) sc.nd rfl (by first | exact Or.inl rfl | exact Or.inr rfl) (pe_ix ix_list (pe_ix ix_list (pv 0) pe_int (fun _ _ => rfl)) (pe_ix ix_list (pv 0) pe_int (fun _ _ => rfl)) (fun _ _ => rfl)))
      (pss_cons (ps_asg (pe_op op_add (pe_ix ix_list (pv 0) pe_int (fun _ _ => rfl)) pe_int) (pg_sub (pv 0) pe_int set_list))
      (pss_one (ps_if (pt_cmpR op_ge (pv 2) (pe_op op_pow pe_int pe_int) (nomark _))
      (pss_one (ps_asg (pv 2) (pg_sub (pv 0) pe_int set_list)))
      (pss_one (ps_asg (pe_op op_mod (pe_callTy call_int1 (by rfl) T.int (by decide +kernel) (pa_cons (pe_op op_add (pe_op op_add (pe_op op_mul (pe_ix ix_list (pv 0) pe_int (fun _ _ => rfl)) pe_int) (pe_op op_mod (pe_callTy call_int1 (by rfl) T.int (by decide +kernel) (pa_cons (pv 2) pa_nil)) pe_int)) pe_int) pa_nil)) pe_int) (pg_sub (pv 0) pe_int set_list)))))))
      pss_nil)
      (pss_cons (ps_if (pt_cmpR op_gt (pe_ix ix_list (pv 0) pe_int (fun _ _ => rfl)) pe_int (nomark _))
      (pss_cons (ps_set (i := 3) sc.nd rfl (by first | exact Or.inl rfl | exact Or.inr rfl) (pe_op op_modN (pe_callTy call_int1 (by rfl) T.int (by decide +kernel) (pa_cons (pe_ix ix_list (pv 0) pe_int (fun _ _ => rfl)) pa_nil)) (pv 1)))
      (pss_cons (ps_asg (pe_op op_fdivN (pe_ix ix_list (pv 0) pe_int (fun _ _ => rfl)) (pv 1)) (pg_sub (pv 0) pe_int set_list))
      (pss_one (ps_ret (pv 3)))))
      pss_nil)
      (pss_cons (ps_asg (pe_op op_mod (pe_callTy call_int1 (by rfl) T.int (by decide +kernel) (pa_cons (pe_op op_add (pe_op op_mul (pe_ix ix_list (pv 0) pe_int (fun _ _ => rfl)) pe_int) pe_int) pa_nil)) pe_int) (pg_sub (pv 0) pe_int set_list))
      (pss_cons (ps_set (i := 3) sc.nd rfl (by first | exact Or.inl rfl | exact Or.inr rfl) (pe_op op_mod (pe_callTy call_int1 (by rfl) T.int (by decide +kernel) (pa_cons (pe_op op_add (pe_op op_mul (pe_ix ix_list (pv 0) pe_int (fun _ _ => rfl)) pe_int) (pe_op op_fdiv (pe_ix ix_list (pv 0) pe_int (fun _ _ => rfl)) pe_int)) pa_nil)) pe_int))
      (pss_one (ps_ret (pe_op op_modN (pe_callTy call_int1 (by rfl) T.int (by decide +kernel) (pa_cons (pe_op op_fdiv (pv 3) pe_int) pa_nil)) (pv 1)))))))), ?_⟩
    have nL : L ≠ p := ne_of hL hp (by intro z; injection z with z; cases ns <;> cases z)
    have nL' : p ≠ L := nL.symm
    have hmn : m ≠ 0 ∧ m.natAbs < 1073741824 := ⟨by omega, by omega⟩
    have hmz : m ≠ 0 := hmn.1
    walk_at "go"
    refine i_itei (fun hb0 => ?_) (fun hb0 => ?_)
    · walk_at "go"
      refine i_itd (fun hlt => ?_) (fun hlt => ?_)
      · obtain ⟨z, hz⟩ := at_ints hi hlt
        walk_at "go"
        refine i_ixl hL hz ?_
        walk_at "go"
        have e18 : (10 : Int) ^ Int.toNat 18 = 1000000000000000000 := by decide
        refine i_itd (fun hz => ?_) (fun hz => ?_)
        · rw [e18] at hz
          walk_at "go"
          refine i_itd (fun h1 => ?_) (fun h1 => ?_)
          · walk_at "go"
            refine k _ _ (fm hm0).1 (fm hm0).2 (went_mk SL (st_upd (i := i + 1) (b := z.fdiv m) (c := c) rfl nL (by walk_at "hp") hn (by omega) (Me.fd (by omega) hm0) hc0 hc1) fun a o n h => by simp only [upd_ne n]; exact h)
          · exact absurd (by omega : 0 < z) h1
        · walk_at "go"
          refine i_itd (fun h1 => ?_) (fun h1 => ?_)
          · exact absurd h1 (by omega)
          · walk_at "go"
            refine k _ _ (fm hm0).1 (fm hm0).2 (went_mk SL (st_upd (i := i + 1) (b := b) rfl nL (by walk_at "hp") hn (by omega) hb (by omega) (by omega)) fun a o n h => by simp only [upd_ne n]; exact h)
      · walk_at "go"
        refine i_itd (fun h1 => ?_) (fun h1 => ?_)
        · exact absurd h1 (by omega)
        · walk_at "go"
          refine k _ _ (fm hm0).1 (fm hm0).2 (went_mk SL (st_upd (i := i) (b := b) rfl nL (by walk_at "hp") hn (by omega) hb (by omega) (by omega)) fun a o n h => by simp only [upd_ne n]; exact h)
    · walk_at "go"
      refine i_itd (fun h1 => ?_) (fun h1 => ?_)
      · walk_at "go"
        refine k _ _ (fm hm0).1 (fm hm0).2 (went_mk SL (st_upd (i := i) (b := b.fdiv m) (c := c) rfl nL (by walk_at "hp") hn (by omega) (Me.fd (by omega) hm0) hc0 hc1) fun a o n h => by simp only [upd_ne n]; exact h)
      · exact absurd (by omega : 0 < b) h1
def spStart (K : PySem.W.Frag) : Sp := fun vs H Q _ => ∃ (s : Addr) (ns : List Int), vs = [.ref s] ∧ SqL K H s (ns.map V.int) ∧ ns.length ≤ 63 ∧ ∀ (p : Addr) (H' : Hp), H p = none → StOk H' p → Same H H' → Q (.ref p) H'
theorem ok_start (T : Txt P K mg a) : FnOk P w K mg base CX0 1 a._law_start.f a._law_start.fd ["_law_script"] (spStart K) := by
  have sc : FnScope ["_law_script"] ["_law_script"] (defScope (top 30)) := ⟨rfl, rfl, rfl, by decide +kernel, rfl, by decide +kernel, by decide +kernel⟩
  refine T._law_start.ok sc (fun vs H Q E h => ?_) (fun cdv A outer s H vs Q E hr h => ?_)
  · obtain ⟨p, m, rfl, _⟩ := h
    rfl
  · obtain ⟨sa, ns, rfl, hS, hn, k⟩ := h
    refine ⟨_, (pss_one (ps_ret (pe_lst (pa_cons (pe_callTy call_list_of (by rfl) T.list (by decide +kernel) (pa_cons (pv 0) pa_nil)) (pa_cons pe_int (pa_cons pe_int (pa_cons pe_int pa_nil))))))), ?_⟩
    walk_at "go"
    refine ⟨sa, _, rfl, .inl hS, fun L nL => ?_⟩
    walk_at "go"
    rename_i p np
    obtain ⟨npL, npH⟩ := upd_none np
    refine k p _ npH ⟨L, ns, 0, 0, 1234577, upd_same, ?_, hn, by omega, by omega, by omega, by omega⟩ fun b o e => ?_
    · walk_at "hp"
    · rw [upd_ne (ne_of_none e npH), upd_ne (ne_of_none e nL)]; exact e
def spBig : Sp := fun vs H Q _ => ∃ (p : Addr) (m : Int), vs = [.ref p, .int m] ∧ StOk H p ∧ 0 < m ∧ ∀ (r : Int) (H' : Hp), 0 ≤ r → r < m → Went p H H' → Q (.int r) H'
theorem ok_big (T : Txt P K mg a) : FnOk P w K mg base CX0 2 a._law_big.f a._law_big.fd ["_law_state", "_law_many"] spBig := by
  have G__law_pull : FnOk P w K mg base CX0 1 a._law_pull.f a._law_pull.fd ["_law_state", "_law_many"] spPull := ok_pull T
  have sc : FnScope ["_law_state", "_law_many", "_law_number", "_law_k"] ["_law_state", "_law_many"] (defScope (top 32)) := ⟨rfl, rfl, rfl, by decide +kernel, rfl, by decide +kernel, by decide +kernel⟩
  refine T._law_big.ok sc (fun vs H Q E h => ?_) (fun cdv A outer s H vs Q E hr h => ?_)
  · obtain ⟨p, m, rfl, _⟩ := h
    rfl
  · obtain ⟨p, m, rfl, S, hm0, k⟩ := h
    refine ⟨_, (pss_cons (ps_set (i := 2) sc.nd rfl (by first | exact Or.inl rfl | exact Or.inr rfl) pe_int)
      (pss_cons (ps_for PassesOwn.never rfl (pi_range1 rfl T.range (pa_cons pe_int pa_nil)) (pg_name (i := 3) sc.nd rfl (Or.inl rfl))
      (pss_one (ps_set (i := 2) sc.nd rfl (by first | exact Or.inl rfl | exact Or.inr rfl) (pe_op op_add (pe_op op_mul (pv 2) pe_int) (pe_call G__law_pull (hr.mono (by decide)) rfl T._law_pull.mg T._law_pull.kp T._law_pull.b .nil pass0 (pa_cons (pv 0) (pa_cons pe_int pa_nil)))))))
      (pss_one (ps_ret (pe_op op_modN (pe_callTy call_int1 (by rfl) T.int (by decide +kernel) (pa_cons (pv 2) pa_nil)) (pv 1)))))), ?_⟩
    walk_at "go"
    refine ⟨8, rfl, by decide, by decide, for_range (n := 8) (fun _ σ H' => ∃ (n : Int) (v : Option V), σ = [some (.ref p), some (.int m), some (.int n), v] ∧ Went p H H') ⟨0, none, rfl, Went.rfl' S⟩ ?_ ?_⟩
    · rintro i σ H1 hi ⟨n, v, rfl, W1⟩
      walk_at "go"
      refine ⟨p, _, rfl, W1.1, by decide, by decide, fun r H2 h0 h1 W2 => ?_⟩
      walk_at "go"
      exact ⟨_, _, rfl, W1.trans W2⟩
    · rintro σ H1 ⟨n, v, rfl, W1⟩
      have hmz : m ≠ 0 := by omega
      walk_at "go"
      exact k _ _ (fm hm0).1 (fm hm0).2 W1
end
end Me
set_option maxHeartbeats 4000000
namespace Me
open PySem L2


/-- a field of an error, as the law draws it -/
inductive Fld (p : Addr) (H : Hp) : V → Prop where
  | int (i : Int) : Fld p H (.int i)
  | str (z : Str) : Fld p H (.str z)
  | non : Fld p H .non
  | tup {t : Addr} {i j : Int} (n : t ≠ p) (h : H t = some (.tup [.int i, .int j])) : Fld p H (.ref t)
theorem atI_some {α : Type} {xs : List α} {i : Int} (h0 : 0 ≤ i) (h1 : i < (xs.length : Int)) : ∃ v, atI xs i = some v := by
  obtain ⟨j, rfl⟩ := Int.eq_ofNat_of_zero_le h0
  have hj : j < xs.length := by omega
  exact ⟨xs[j], atI_nat (List.getElem?_eq_getElem hj)⟩
theorem i_m1 {r : V → List V → Hp → VK → Prop} {to te : TE} {σ : L2.St} {H : Hp} {Q : VK} (q : to σ H fun x H1 => (∃ a, x = .str a) ∧ te σ H1 fun y H2 => r x [y] H2 Q) : tM1 r to te σ H Q := q
section
variable {P : Program} {w : World} {K : PySem.W.Frag} {mg : Str → Option Value} {base : Heap} {a : Ad}
def spField : Sp := fun vs H Q _ => ∃ p, vs = [.ref p] ∧ StOk H p ∧ ∀ v H', Fld p H' v → Went p H H' → Q v H'
theorem ok_field (T : Txt P K mg a) : FnOk P w K mg base CX0 3 a._law_field.f a._law_field.fd ["_law_state"] spField := by
  have G__law_pull : FnOk P w K mg base CX0 1 a._law_pull.f a._law_pull.fd ["_law_state", "_law_many"] spPull := ok_pull T
  have G__law_big : FnOk P w K mg base CX0 2 a._law_big.f a._law_big.fd ["_law_state", "_law_many"] spBig := ok_big T
  have sc : FnScope ["_law_state", "_law_turn", "_law_letters", "_law_k"] ["_law_state"] (defScope (top 33)) := ⟨rfl, rfl, rfl, by decide +kernel, rfl, by decide +kernel, by decide +kernel⟩
  refine T._law_field.ok sc (fun vs H Q E h => ?_) (fun cdv A outer s H vs Q E hr h => ?_)
  · obtain ⟨p, rfl, _⟩ := h
    rfl
  · obtain ⟨p, rfl, S, k⟩ := h
    refine ⟨_, (pss_cons (ps_set (i := 1) sc.nd rfl (by first | exact Or.inl rfl | exact Or.inr rfl) (pe_call G__law_pull (hr.mono (by decide)) rfl T._law_pull.mg T._law_pull.kp T._law_pull.b .nil pass0 (pa_cons (pv 0) (pa_cons pe_int pa_nil))))
      (pss_cons (ps_if (pt_cmpR op_eq (pv 1) pe_int (nomark _))
      (pss_one (ps_ret (pe_op op_add (pe_op op_sub (pe_call G__law_big (hr.mono (by decide)) rfl T._law_big.mg T._law_big.kp T._law_big.b .nil pass0 (pa_cons (pv 0) (pa_cons (pe_op op_sub (pe_op op_mul pe_int (pe_op op_pow pe_int pe_int)) pe_int) pa_nil))) (pe_op op_pow pe_int pe_int)) pe_int)))
      pss_nil)
      (pss_cons (ps_if (pt_cmpR op_eq (pv 1) pe_int (nomark _))
      (pss_cons (ps_set (i := 2) sc.nd rfl (by first | exact Or.inl rfl | exact Or.inr rfl) pe_str)
      (pss_one (ps_ret (pe_join pe_str (pe_lc (own := [("_law_k", 3)]) (g := gName 3) (by rfl) sc.nd (pi_range1 rfl T.range (pa_cons (pe_op op_add pe_int (pe_call G__law_pull (hr.mono (by decide)) rfl T._law_pull.mg T._law_pull.kp T._law_pull.b .nil pass0 (pa_cons (pv 0) (pa_cons pe_int pa_nil)))) pa_nil)) (blkOk_by (own := [("_law_k", 3)]) (N := ["_law_state", "_law_turn", "_law_letters", "_law_k"]) (sc := defScope (top 33)) (by decide +kernel)) (fun _ _ _ _ _ => pg_name (i := 3) sc.nd rfl (Or.inl rfl)) (fun _ _ _ _ _ => pts_nil) (fun _ _ _ _ _ => (pe_ix ix_str (pv 2) (pe_call G__law_pull (hr.mono (by decide)) rfl T._law_pull.mg T._law_pull.kp T._law_pull.b .nil pass0 (pa_cons (pv 0) (pa_cons pe_int pa_nil))) (fun _ _ => rfl))))))))
      pss_nil)
      (pss_cons (ps_if (pt_cmpR op_eq (pv 1) pe_int (nomark _))
      (pss_one (ps_ret pe_non))
      pss_nil)
      (pss_one (ps_ret (pe_tup (pa_cons (pe_call G__law_pull (hr.mono (by decide)) rfl T._law_pull.mg T._law_pull.kp T._law_pull.b .nil pass0 (pa_cons (pv 0) (pa_cons pe_int pa_nil))) (pa_cons (pe_op op_sub (pe_call G__law_pull (hr.mono (by decide)) rfl T._law_pull.mg T._law_pull.kp T._law_pull.b .nil pass0 (pa_cons (pv 0) (pa_cons pe_int pa_nil))) pe_int) pa_nil))))))))), ?_⟩
    walk_at "go"
    refine ⟨p, _, rfl, S, by decide, by decide, fun r H1 h0 h1 W1 => ?_⟩
    walk_at "go"
    refine i_itei (fun e => ?_) (fun e => ?_)
    · walk_at "go"
      refine ⟨p, _, rfl, W1.1, by decide, fun r2 H2 _ _ W2 => ?_⟩
      walk_at "go"
      exact k _ _ (.int _) (W1.trans W2)
    · walk_at "go"
      refine i_itei (fun e => ?_) (fun e => ?_)
      · walk_at "go"
        refine i_m1 ?_
        walk_at "go"
        refine ⟨⟨_, rfl⟩, ?_⟩
        refine ⟨_, rfl, p, _, rfl, W1.1, by decide, by decide, fun r2 H2 g0 g1 W2 => ?_⟩
        refine ⟨_, _, rfl, rfl, ?_⟩
        refine ⟨1 + r2, rfl, by omega, by omega, fun D nD => ?_⟩
        have W12 := W1.trans W2
        have Dp : D ≠ p := W2.1.ne nD
        have D0 : H D = none := W12.none nD Dp
        refine lc_range (lo := 0) (n := (1 + r2).toNat) (fun i H3 => ∃ ys : List Str, H3 D = some (.lst (ys.map V.str)) ∧ ys.length = i ∧ (∀ y ∈ ys, y.length = 1) ∧ Went p H H3) ⟨[], upd_same, rfl, by simp, W12.new nD⟩ ?_ ?_
        · rintro i H3 hi ⟨ys, e1, e2, e3, W3⟩
          refine ⟨rfl, ?_⟩
          dsimp only [tYes]
          rw [if_pos rfl]
          refine ⟨_, rfl, _, rfl, p, _, rfl, W3.1, by decide, by decide, fun r4 H4 q0 q1 W4 => ?_⟩
          have hl : (("abcdefghijklmnopqrstuvwxyz" : Str).cps.toList).length = 26 := by decide
          obtain ⟨c, hc⟩ := atI_some (xs := ("abcdefghijklmnopqrstuvwxyz" : Str).cps.toList) q0 (by rw [hl]; omega)
          refine ⟨_, r4, c, rfl, rfl, by decide, hc, ys.map V.str, W4.get Dp e1, by rw [List.length_map]; show ys.length < 16777216; omega, ys ++ [⟨#[c]⟩], ?_, ?_, ?_, ?_⟩
          · rw [upd_same]; simp
          · simp [e2]
          · intro y hy
            rcases List.mem_append.mp hy with hy | hy
            · exact e3 y hy
            · rw [List.mem_singleton.mp hy]; rfl
          · exact Went.wr S (W3.trans W4) D0 Dp
        · rintro H3 ⟨ys, e1, e2, e3, W3⟩
          refine ⟨_, D, ys, rfl, rfl, .inl (SqL.of e1), ?_, k _ _ (.str _) W3⟩
          have es : (ys.map (·.length)).sum = ys.length := by
            clear e1 e2
            induction ys with
            | nil => rfl
            | cons y r ih =>
              rw [List.map_cons, List.sum_cons, ih fun z hz => e3 z (List.mem_cons_of_mem _ hz), e3 y List.mem_cons_self, List.length_cons]
              omega
          rw [es]
          show ys.length + ys.length * 0 ≤ 16777216
          omega
      · walk_at "go"
        refine i_itei (fun e => ?_) (fun e => ?_)
        · walk_at "go"
          exact k _ _ .non W1
        · walk_at "go"
          refine ⟨p, _, rfl, W1.1, by decide, by decide, fun r2 H2 _ _ W2 => ?_⟩
          walk_at "go"
          refine ⟨p, _, rfl, W2.1, by decide, by decide, fun r3 H3 _ _ W3 => ?_⟩
          walk_at "go"
          rename_i t nt
          have W := (W1.trans W2).trans W3
          exact k _ _ (.tup (W.1.ne nt) upd_same) (W.new nt)
end
end Me
set_option maxHeartbeats 4000000
namespace Me
open PySem L2


section
variable {P : Program} {w : World} {K : PySem.W.Frag} {mg : Str → Option Value} {base : Heap} {a : Ad}
theorem ok_ini_0 (T : Txt P K mg a) : FnOk P w K mg base CX0 1 (a.I 0).f (a.I 0).fd (["self", "part"] : List Str) (spI1 (a.C 0) "part") :=
  ini1 (T.er 0 (by decide)) rfl ⟨rfl, rfl, rfl, by decide +kernel, rfl, by decide +kernel, by decide +kernel⟩ fun _ _ _ _ _ _ => pss_one (ps_ost (pv 0) (pv 1))
theorem ok_ini_1 (T : Txt P K mg a) : FnOk P w K mg base CX0 1 (a.I 1).f (a.I 1).fd (["self", "part"] : List Str) (spI1 (a.C 1) "part") :=
  ini1 (T.er 1 (by decide)) rfl ⟨rfl, rfl, rfl, by decide +kernel, rfl, by decide +kernel, by decide +kernel⟩ fun _ _ _ _ _ _ => pss_one (ps_ost (pv 0) (pv 1))
theorem ok_ini_2 (T : Txt P K mg a) : FnOk P w K mg base CX0 1 (a.I 2).f (a.I 2).fd (["self", "name"] : List Str) (spI1 (a.C 2) "name") :=
  ini1 (T.er 2 (by decide)) rfl ⟨rfl, rfl, rfl, by decide +kernel, rfl, by decide +kernel, by decide +kernel⟩ fun _ _ _ _ _ _ => pss_one (ps_ost (pv 0) (pv 1))
theorem ok_ini_3 (T : Txt P K mg a) : FnOk P w K mg base CX0 1 (a.I 3).f (a.I 3).fd (["self", "name"] : List Str) (spI1 (a.C 3) "name") :=
  ini1 (T.er 3 (by decide)) rfl ⟨rfl, rfl, rfl, by decide +kernel, rfl, by decide +kernel, by decide +kernel⟩ fun _ _ _ _ _ _ => pss_one (ps_ost (pv 0) (pv 1))
theorem ok_ini_4 (T : Txt P K mg a) : FnOk P w K mg base CX0 1 (a.I 4).f (a.I 4).fd (["self", "name", "inner"] : List Str) (spI2 (a.C 4) "name" "inner") :=
  ini2 (T.er 4 (by decide)) rfl ⟨rfl, rfl, rfl, by decide +kernel, rfl, by decide +kernel, by decide +kernel⟩ fun _ _ _ _ _ _ => pss_cons (ps_ost (pv 0) (pv 1)) (pss_one (ps_ost (pv 0) (pv 2)))
theorem ok_ini_5 (T : Txt P K mg a) : FnOk P w K mg base CX0 1 (a.I 5).f (a.I 5).fd (["self", "name", "inner"] : List Str) (spI2 (a.C 5) "name" "inner") :=
  ini2 (T.er 5 (by decide)) rfl ⟨rfl, rfl, rfl, by decide +kernel, rfl, by decide +kernel, by decide +kernel⟩ fun _ _ _ _ _ _ => pss_cons (ps_ost (pv 0) (pv 1)) (pss_one (ps_ost (pv 0) (pv 2)))
theorem ok_ini_8 (T : Txt P K mg a) : FnOk P w K mg base CX0 1 (a.I 8).f (a.I 8).fd (["self", "path"] : List Str) (spI1 (a.C 8) "path") :=
  ini1 (T.er 8 (by decide)) rfl ⟨rfl, rfl, rfl, by decide +kernel, rfl, by decide +kernel, by decide +kernel⟩ fun _ _ _ _ _ _ => pss_one (ps_ost (pv 0) (pv 1))
theorem ok_ini_9 (T : Txt P K mg a) : FnOk P w K mg base CX0 1 (a.I 9).f (a.I 9).fd (["self", "at"] : List Str) (spI1 (a.C 9) "at") :=
  ini1 (T.er 9 (by decide)) rfl ⟨rfl, rfl, rfl, by decide +kernel, rfl, by decide +kernel, by decide +kernel⟩ fun _ _ _ _ _ _ => pss_one (ps_ost (pv 0) (pv 1))
theorem ok_ini_10 (T : Txt P K mg a) : FnOk P w K mg base CX0 1 (a.I 10).f (a.I 10).fd (["self", "due"] : List Str) (spI1 (a.C 10) "due") :=
  ini1 (T.er 10 (by decide)) rfl ⟨rfl, rfl, rfl, by decide +kernel, rfl, by decide +kernel, by decide +kernel⟩ fun _ _ _ _ _ _ => pss_one (ps_ost (pv 0) (pv 1))
theorem ok_ini_11 (T : Txt P K mg a) : FnOk P w K mg base CX0 1 (a.I 11).f (a.I 11).fd (["self", "at"] : List Str) (spI1 (a.C 11) "at") :=
  ini1 (T.er 11 (by decide)) rfl ⟨rfl, rfl, rfl, by decide +kernel, rfl, by decide +kernel, by decide +kernel⟩ fun _ _ _ _ _ _ => pss_one (ps_ost (pv 0) (pv 1))
theorem ok_ini_13 (T : Txt P K mg a) : FnOk P w K mg base CX0 1 (a.I 13).f (a.I 13).fd (["self", "part"] : List Str) (spI1 (a.C 13) "part") :=
  ini1 (T.er 13 (by decide)) rfl ⟨rfl, rfl, rfl, by decide +kernel, rfl, by decide +kernel, by decide +kernel⟩ fun _ _ _ _ _ _ => pss_one (ps_ost (pv 0) (pv 1))
theorem ok_ini_14 (T : Txt P K mg a) : FnOk P w K mg base CX0 1 (a.I 14).f (a.I 14).fd (["self", "most"] : List Str) (spI1 (a.C 14) "most") :=
  ini1 (T.er 14 (by decide)) rfl ⟨rfl, rfl, rfl, by decide +kernel, rfl, by decide +kernel, by decide +kernel⟩ fun _ _ _ _ _ _ => pss_one (ps_ost (pv 0) (pv 1))
theorem ok_ini_16 (T : Txt P K mg a) : FnOk P w K mg base CX0 1 (a.I 16).f (a.I 16).fd (["self", "reason"] : List Str) (spI1 (a.C 16) "reason") :=
  ini1 (T.er 16 (by decide)) rfl ⟨rfl, rfl, rfl, by decide +kernel, rfl, by decide +kernel, by decide +kernel⟩ fun _ _ _ _ _ _ => pss_one (ps_ost (pv 0) (pv 1))
theorem ok_ini_19 (T : Txt P K mg a) : FnOk P w K mg base CX0 1 (a.I 19).f (a.I 19).fd (["self", "path"] : List Str) (spI1 (a.C 19) "path") :=
  ini1 (T.er 19 (by decide)) rfl ⟨rfl, rfl, rfl, by decide +kernel, rfl, by decide +kernel, by decide +kernel⟩ fun _ _ _ _ _ _ => pss_one (ps_ost (pv 0) (pv 1))
theorem ok_ini_20 (T : Txt P K mg a) : FnOk P w K mg base CX0 1 (a.I 20).f (a.I 20).fd (["self", "at", "word"] : List Str) (spI2 (a.C 20) "at" "word") :=
  ini2 (T.er 20 (by decide)) rfl ⟨rfl, rfl, rfl, by decide +kernel, rfl, by decide +kernel, by decide +kernel⟩ fun _ _ _ _ _ _ => pss_cons (ps_ost (pv 0) (pv 1)) (pss_one (ps_ost (pv 0) (pv 2)))
theorem ok_ini_21 (T : Txt P K mg a) : FnOk P w K mg base CX0 1 (a.I 21).f (a.I 21).fd (["self", "line"] : List Str) (spI1 (a.C 21) "line") :=
  ini1 (T.er 21 (by decide)) rfl ⟨rfl, rfl, rfl, by decide +kernel, rfl, by decide +kernel, by decide +kernel⟩ fun _ _ _ _ _ _ => pss_one (ps_ost (pv 0) (pv 1))
theorem ok_ini_23 (T : Txt P K mg a) : FnOk P w K mg base CX0 1 (a.I 23).f (a.I 23).fd (["self", "name"] : List Str) (spI1 (a.C 23) "name") :=
  ini1 (T.er 23 (by decide)) rfl ⟨rfl, rfl, rfl, by decide +kernel, rfl, by decide +kernel, by decide +kernel⟩ fun _ _ _ _ _ _ => pss_one (ps_ost (pv 0) (pv 1))
def spRaise1 (C : Nat → Addr) : Sp := fun vs H Q E => ∃ (k : Int) (y z : V), vs = [.int k, y, z] ∧ 0 ≤ k ∧ (∀ i : Nat, i < 12 → k = i → thrown (C i) (fvs i y z) E H) ∧ (12 ≤ k → Q .non H)
theorem ok_raise1 (T : Txt P K mg a) : FnOk P w K mg base (L2.CX P w) 3 a._law_raise_first.f a._law_raise_first.fd ["_law_which", "_law_one", "_law_other"] (spRaise1 a.C) := by
  have sc : FnScope ["_law_which", "_law_one", "_law_other"] ["_law_which", "_law_one", "_law_other"] (defScope (top 34)) := ⟨rfl, rfl, rfl, by decide +kernel, rfl, by decide +kernel, by decide +kernel⟩
  refine T._law_raise_first.okX sc (fun vs H Q E h => ?_) (fun cdv A outer s H vs Q E hr h => ?_)
  · obtain ⟨k, y, z, rfl, _⟩ := h
    rfl
  · obtain ⟨k, y, z, rfl, k0, kT, kN⟩ := h
    have tk : Takes (cxOf (L2.CX P w) P w K mg base ["_law_which", "_law_one", "_law_other"] "_law_raise_first" (defScope (top 34)) a._law_raise_first.f cdv A outer s H E) (fun cls d _ H => E cls d H) := takes_of rfl rfl rfl rfl
    refine ⟨_, (pss_cons (ps_if (pt_cmpR op_eq (pv 0) pe_int (nomark _))
      (pss_one (ps_thr1 (T.er 0 (by decide)) rfl rfl rfl (ok_ini_0 T) (hr.mono (by decide)) tk (pv 1) rfl))
      pss_nil)
      (pss_cons (ps_if (pt_cmpR op_eq (pv 0) pe_int (nomark _))
      (pss_one (ps_thr1 (T.er 1 (by decide)) rfl rfl rfl (ok_ini_1 T) (hr.mono (by decide)) tk (pv 1) rfl))
      pss_nil)
      (pss_cons (ps_if (pt_cmpR op_eq (pv 0) pe_int (nomark _))
      (pss_one (ps_thr1 (T.er 2 (by decide)) rfl rfl rfl (ok_ini_2 T) (hr.mono (by decide)) tk (pv 1) rfl))
      pss_nil)
      (pss_cons (ps_if (pt_cmpR op_eq (pv 0) pe_int (nomark _))
      (pss_one (ps_thr1 (T.er 3 (by decide)) rfl rfl rfl (ok_ini_3 T) (hr.mono (by decide)) tk (pv 1) rfl))
      pss_nil)
      (pss_cons (ps_if (pt_cmpR op_eq (pv 0) pe_int (nomark _))
      (pss_one (ps_thr2 (T.er 4 (by decide)) rfl rfl rfl (ok_ini_4 T) (hr.mono (by decide)) tk (pv 1) (pv 2) rfl))
      pss_nil)
      (pss_cons (ps_if (pt_cmpR op_eq (pv 0) pe_int (nomark _))
      (pss_one (ps_thr2 (T.er 5 (by decide)) rfl rfl rfl (ok_ini_5 T) (hr.mono (by decide)) tk (pv 1) (pv 2) rfl))
      pss_nil)
      (pss_cons (ps_if (pt_cmpR op_eq (pv 0) pe_int (nomark _))
      (pss_one (ps_thr0 (T.er 6 (by decide)) rfl rfl rfl (hr.mono (by decide)) tk rfl))
      pss_nil)
      (pss_cons (ps_if (pt_cmpR op_eq (pv 0) pe_int (nomark _))
      (pss_one (ps_thr0 (T.er 7 (by decide)) rfl rfl rfl (hr.mono (by decide)) tk rfl))
      pss_nil)
      (pss_cons (ps_if (pt_cmpR op_eq (pv 0) pe_int (nomark _))
      (pss_one (ps_thr1 (T.er 8 (by decide)) rfl rfl rfl (ok_ini_8 T) (hr.mono (by decide)) tk (pv 1) rfl))
      pss_nil)
      (pss_cons (ps_if (pt_cmpR op_eq (pv 0) pe_int (nomark _))
      (pss_one (ps_thr1 (T.er 9 (by decide)) rfl rfl rfl (ok_ini_9 T) (hr.mono (by decide)) tk (pv 1) rfl))
      pss_nil)
      (pss_cons (ps_if (pt_cmpR op_eq (pv 0) pe_int (nomark _))
      (pss_one (ps_thr1 (T.er 10 (by decide)) rfl rfl rfl (ok_ini_10 T) (hr.mono (by decide)) tk (pv 1) rfl))
      pss_nil)
      (pss_one (ps_if (pt_cmpR op_eq (pv 0) pe_int (nomark _))
      (pss_one (ps_thr1 (T.er 11 (by decide)) rfl rfl rfl (ok_ini_11 T) (hr.mono (by decide)) tk (pv 1) rfl))
      pss_nil))))))))))))), ?_⟩
    walk_at "go"
    refine i_itei (fun e => ?_) (fun e => ?_)
    · exact ⟨y, z, rfl, rfl, kT 0 (by decide) e⟩
    walk_at "go"
    refine i_itei (fun e => ?_) (fun e => ?_)
    · exact ⟨y, z, rfl, rfl, kT 1 (by decide) e⟩
    walk_at "go"
    refine i_itei (fun e => ?_) (fun e => ?_)
    · exact ⟨y, z, rfl, rfl, kT 2 (by decide) e⟩
    walk_at "go"
    refine i_itei (fun e => ?_) (fun e => ?_)
    · exact ⟨y, z, rfl, rfl, kT 3 (by decide) e⟩
    walk_at "go"
    refine i_itei (fun e => ?_) (fun e => ?_)
    · exact ⟨y, z, rfl, rfl, kT 4 (by decide) e⟩
    walk_at "go"
    refine i_itei (fun e => ?_) (fun e => ?_)
    · exact ⟨y, z, rfl, rfl, kT 5 (by decide) e⟩
    walk_at "go"
    refine i_itei (fun e => ?_) (fun e => ?_)
    · exact ⟨y, z, rfl, rfl, kT 6 (by decide) e⟩
    walk_at "go"
    refine i_itei (fun e => ?_) (fun e => ?_)
    · exact ⟨y, z, rfl, rfl, kT 7 (by decide) e⟩
    walk_at "go"
    refine i_itei (fun e => ?_) (fun e => ?_)
    · exact ⟨y, z, rfl, rfl, kT 8 (by decide) e⟩
    walk_at "go"
    refine i_itei (fun e => ?_) (fun e => ?_)
    · exact ⟨y, z, rfl, rfl, kT 9 (by decide) e⟩
    walk_at "go"
    refine i_itei (fun e => ?_) (fun e => ?_)
    · exact ⟨y, z, rfl, rfl, kT 10 (by decide) e⟩
    walk_at "go"
    refine i_itei (fun e => ?_) (fun e => ?_)
    · exact ⟨y, z, rfl, rfl, kT 11 (by decide) e⟩
    walk_at "go"
    exact kN (by omega)
/-- the law's errors, by their number -/
def spRaise (C : Nat → Addr) : Sp := fun vs H _ E => ∃ (k : Nat) (y z : V), vs = [.int k, y, z] ∧ k < 24 ∧ thrown (C k) (fvs k y z) E H
theorem ok_raise (T : Txt P K mg a) : FnOk P w K mg base (L2.CX P w) 4 a._law_raise.f a._law_raise.fd ["_law_which", "_law_one", "_law_other"] (spRaise a.C) := by
  have G__law_raise_first : FnOk P w K mg base (L2.CX P w) 3 a._law_raise_first.f a._law_raise_first.fd ["_law_which", "_law_one", "_law_other"] (spRaise1 a.C) := ok_raise1 T
  have sc : FnScope ["_law_which", "_law_one", "_law_other"] ["_law_which", "_law_one", "_law_other"] (defScope (top 35)) := ⟨rfl, rfl, rfl, by decide +kernel, rfl, by decide +kernel, by decide +kernel⟩
  refine T._law_raise.okX sc (fun vs H Q E h => ?_) (fun cdv A outer s H vs Q E hr h => ?_)
  · obtain ⟨k, y, z, rfl, _⟩ := h
    rfl
  · obtain ⟨n, y, z, rfl, kl, kA⟩ := h
    have tk : Takes (cxOf (L2.CX P w) P w K mg base ["_law_which", "_law_one", "_law_other"] "_law_raise" (defScope (top 35)) a._law_raise.f cdv A outer s H E) (fun cls d _ H => E cls d H) := takes_of rfl rfl rfl rfl
    have kT : ∀ i : Nat, i < 24 → (n : Int) = i → thrown (a.C i) (fvs i y z) E H := fun i _ e => by
      have e2 : n = i := by omega
      rw [← e2]; exact kA
    refine ⟨_, (pss_cons (ps_expr (pe_call G__law_raise_first (hr.mono (by decide)) rfl T._law_raise_first.mg T._law_raise_first.kp T._law_raise_first.b .nil (passes_call tk (fun _ _ _ _ h => h)) (pa_cons (pv 0) (pa_cons (pv 1) (pa_cons (pv 2) pa_nil)))))
      (pss_cons (ps_if (pt_cmpR op_eq (pv 0) pe_int (nomark _))
      (pss_one (ps_thr0 (T.er 12 (by decide)) rfl rfl rfl (hr.mono (by decide)) tk rfl))
      pss_nil)
      (pss_cons (ps_if (pt_cmpR op_eq (pv 0) pe_int (nomark _))
      (pss_one (ps_thr1 (T.er 13 (by decide)) rfl rfl rfl (ok_ini_13 T) (hr.mono (by decide)) tk (pv 1) rfl))
      pss_nil)
      (pss_cons (ps_if (pt_cmpR op_eq (pv 0) pe_int (nomark _))
      (pss_one (ps_thr1 (T.er 14 (by decide)) rfl rfl rfl (ok_ini_14 T) (hr.mono (by decide)) tk (pv 1) rfl))
      pss_nil)
      (pss_cons (ps_if (pt_cmpR op_eq (pv 0) pe_int (nomark _))
      (pss_one (ps_thr0 (T.er 15 (by decide)) rfl rfl rfl (hr.mono (by decide)) tk rfl))
      pss_nil)
      (pss_cons (ps_if (pt_cmpR op_eq (pv 0) pe_int (nomark _))
      (pss_one (ps_thr1 (T.er 16 (by decide)) rfl rfl rfl (ok_ini_16 T) (hr.mono (by decide)) tk (pv 1) rfl))
      pss_nil)
      (pss_cons (ps_if (pt_cmpR op_eq (pv 0) pe_int (nomark _))
      (pss_one (ps_thr0 (T.er 17 (by decide)) rfl rfl rfl (hr.mono (by decide)) tk rfl))
      pss_nil)
      (pss_cons (ps_if (pt_cmpR op_eq (pv 0) pe_int (nomark _))
      (pss_one (ps_thr0 (T.er 18 (by decide)) rfl rfl rfl (hr.mono (by decide)) tk rfl))
      pss_nil)
      (pss_cons (ps_if (pt_cmpR op_eq (pv 0) pe_int (nomark _))
      (pss_one (ps_thr1 (T.er 19 (by decide)) rfl rfl rfl (ok_ini_19 T) (hr.mono (by decide)) tk (pv 1) rfl))
      pss_nil)
      (pss_cons (ps_if (pt_cmpR op_eq (pv 0) pe_int (nomark _))
      (pss_one (ps_thr2 (T.er 20 (by decide)) rfl rfl rfl (ok_ini_20 T) (hr.mono (by decide)) tk (pv 1) (pv 2) rfl))
      pss_nil)
      (pss_cons (ps_if (pt_cmpR op_eq (pv 0) pe_int (nomark _))
      (pss_one (ps_thr1 (T.er 21 (by decide)) rfl rfl rfl (ok_ini_21 T) (hr.mono (by decide)) tk (pv 1) rfl))
      pss_nil)
      (pss_cons (ps_if (pt_cmpR op_eq (pv 0) pe_int (nomark _))
      (pss_one (ps_thr0 (T.er 22 (by decide)) rfl rfl rfl (hr.mono (by decide)) tk rfl))
      pss_nil)
      (pss_one (ps_thr1 (T.er 23 (by decide)) rfl rfl rfl (ok_ini_23 T) (hr.mono (by decide)) tk (pv 1) rfl)))))))))))))), ?_⟩
    walk_at "go"
    refine ⟨n, y, z, rfl, by omega, fun i hi e => kT i (by omega) e, fun hn => ?_⟩
    walk_at "go"
    refine i_itei (fun e => ?_) (fun e => ?_)
    · exact ⟨y, z, rfl, rfl, kT 12 (by decide) e⟩
    walk_at "go"
    refine i_itei (fun e => ?_) (fun e => ?_)
    · exact ⟨y, z, rfl, rfl, kT 13 (by decide) e⟩
    walk_at "go"
    refine i_itei (fun e => ?_) (fun e => ?_)
    · exact ⟨y, z, rfl, rfl, kT 14 (by decide) e⟩
    walk_at "go"
    refine i_itei (fun e => ?_) (fun e => ?_)
    · exact ⟨y, z, rfl, rfl, kT 15 (by decide) e⟩
    walk_at "go"
    refine i_itei (fun e => ?_) (fun e => ?_)
    · exact ⟨y, z, rfl, rfl, kT 16 (by decide) e⟩
    walk_at "go"
    refine i_itei (fun e => ?_) (fun e => ?_)
    · exact ⟨y, z, rfl, rfl, kT 17 (by decide) e⟩
    walk_at "go"
    refine i_itei (fun e => ?_) (fun e => ?_)
    · exact ⟨y, z, rfl, rfl, kT 18 (by decide) e⟩
    walk_at "go"
    refine i_itei (fun e => ?_) (fun e => ?_)
    · exact ⟨y, z, rfl, rfl, kT 19 (by decide) e⟩
    walk_at "go"
    refine i_itei (fun e => ?_) (fun e => ?_)
    · exact ⟨y, z, rfl, rfl, kT 20 (by decide) e⟩
    walk_at "go"
    refine i_itei (fun e => ?_) (fun e => ?_)
    · exact ⟨y, z, rfl, rfl, kT 21 (by decide) e⟩
    walk_at "go"
    refine i_itei (fun e => ?_) (fun e => ?_)
    · exact ⟨y, z, rfl, rfl, kT 22 (by decide) e⟩
    walk_at "go"
    exact ⟨y, z, rfl, rfl, kT 23 (by decide) (by omega)⟩
end
end Me
set_option maxHeartbeats 4000000
namespace Me
open PySem L2


theorem i_isP {K : PySem.W.Frag} {a D c : Addr} {d : Option Addr} {b : Bool} {H : Hp} {Q : VK} (kt : PySem.W.kitOne K (.ref D) (.ref c) = some b) (hd : DictOk H d) (q : Q (.bl b) H) : rIsP K a D d [.ref a, .ref c] H Q := ⟨_, _, _, rfl, .own _, kt, hd, q⟩
theorem DictOk.new {H : Hp} {d : Option Addr} {p : Addr} {o : HO} (h : DictOk H d) (n : H p = none) : DictOk (upd H p o) d := by
  cases d with
  | none => trivial
  | some dd =>
    obtain ⟨fs, e⟩ := h
    exact ⟨fs, by rw [upd_ne (ne_of_none e n)]; exact e⟩
theorem same_new {H H' : Hp} {p : Addr} {o : HO} (h : Same H H') (n : H' p = none) : Same H (upd H' p o) := fun b u e => by
  have e1 := h b u e
  rw [upd_ne (ne_of_none e1 n)]; exact e1
end Me
local macro_rules | `(tactic| walk_at "dk") => `(tactic| first | with_reducible assumption | ((with_reducible refine' Me.DictOk.new ?h ?n); (case h => walk_at "dk"); (case n => with_reducible assumption)))
local macro_rules | `(tactic| walk_at "sm") => `(tactic| first | with_reducible assumption | ((with_reducible refine' Me.same_new ?h ?n); (case h => walk_at "sm"); (case n => with_reducible assumption)))
namespace Me
open PySem L2
/-- which error it is, as a list -/
def bools (i : Nat) : List V := (List.range 24).map fun j => V.bl (decide (i = j))
section
variable {P : Program} {w : World} {K : PySem.W.Frag} {mg : Str → Option Value} {base : Heap} {a : Ad}
def spClasses (C : Nat → Addr) (p : Addr × Obj) : Sp := fun vs H Q _ => ∃ (i : Nat) (d : Option Addr), i < 24 ∧ vs = [.ref p.1] ∧ Zc (.ref (C i)) d p.2 ∧ (∃ vs, p.2.data = .fields vs) ∧ DictOk H d ∧ ∀ q H', H' q = some (.lst (bools i)) → Same H H' → Q (.ref q) H'
theorem ok_classes (T : Txt P K mg a) : FnP P w K mg base 1 a._law_classes.f a._law_classes.fd ["_law_e"] (spClasses a.C) := by
  have sc : FnScope ["_law_e", "_law_told"] ["_law_e"] (defScope (top 36)) := ⟨rfl, rfl, rfl, by decide +kernel, rfl, by decide +kernel, by decide +kernel⟩
  refine okP T._law_classes.fn sc (fun p vs H Q E h => ?_) (fun cdv A outer s H vs Q E p hr h => ?_)
  · obtain ⟨i, d, _, rfl, _⟩ := h
    rfl
  · obtain ⟨i, d, hi, rfl, hz, hf, hd, k⟩ := h
    refine ⟨_, (pss_cons (ps_set (i := 1) sc.nd rfl (by first | exact Or.inl rfl | exact Or.inr rfl) (pe_lst (pa_cons (pe_callB (call_isP (T.er i hi).is (List.mem_singleton.mpr rfl) hz hf) (by rfl) T.isinstance (by decide +kernel) (pa_cons (pv 0) (pa_cons (pe_glob (v := .ref (a.C 0)) rfl (T.er 0 (by decide)).gl rfl) pa_nil))) (pa_cons (pe_callB (call_isP (T.er i hi).is (List.mem_singleton.mpr rfl) hz hf) (by rfl) T.isinstance (by decide +kernel) (pa_cons (pv 0) (pa_cons (pe_glob (v := .ref (a.C 1)) rfl (T.er 1 (by decide)).gl rfl) pa_nil))) (pa_cons (pe_callB (call_isP (T.er i hi).is (List.mem_singleton.mpr rfl) hz hf) (by rfl) T.isinstance (by decide +kernel) (pa_cons (pv 0) (pa_cons (pe_glob (v := .ref (a.C 2)) rfl (T.er 2 (by decide)).gl rfl) pa_nil))) pa_nil)))))
      (pss_cons (ps_set (i := 1) sc.nd rfl (by first | exact Or.inl rfl | exact Or.inr rfl) (pe_op op_cat (pv 1) (pe_lst (pa_cons (pe_callB (call_isP (T.er i hi).is (List.mem_singleton.mpr rfl) hz hf) (by rfl) T.isinstance (by decide +kernel) (pa_cons (pv 0) (pa_cons (pe_glob (v := .ref (a.C 3)) rfl (T.er 3 (by decide)).gl rfl) pa_nil))) (pa_cons (pe_callB (call_isP (T.er i hi).is (List.mem_singleton.mpr rfl) hz hf) (by rfl) T.isinstance (by decide +kernel) (pa_cons (pv 0) (pa_cons (pe_glob (v := .ref (a.C 4)) rfl (T.er 4 (by decide)).gl rfl) pa_nil))) (pa_cons (pe_callB (call_isP (T.er i hi).is (List.mem_singleton.mpr rfl) hz hf) (by rfl) T.isinstance (by decide +kernel) (pa_cons (pv 0) (pa_cons (pe_glob (v := .ref (a.C 5)) rfl (T.er 5 (by decide)).gl rfl) pa_nil))) pa_nil))))))
      (pss_cons (ps_set (i := 1) sc.nd rfl (by first | exact Or.inl rfl | exact Or.inr rfl) (pe_op op_cat (pv 1) (pe_lst (pa_cons (pe_callB (call_isP (T.er i hi).is (List.mem_singleton.mpr rfl) hz hf) (by rfl) T.isinstance (by decide +kernel) (pa_cons (pv 0) (pa_cons (pe_glob (v := .ref (a.C 6)) rfl (T.er 6 (by decide)).gl rfl) pa_nil))) (pa_cons (pe_callB (call_isP (T.er i hi).is (List.mem_singleton.mpr rfl) hz hf) (by rfl) T.isinstance (by decide +kernel) (pa_cons (pv 0) (pa_cons (pe_glob (v := .ref (a.C 7)) rfl (T.er 7 (by decide)).gl rfl) pa_nil))) (pa_cons (pe_callB (call_isP (T.er i hi).is (List.mem_singleton.mpr rfl) hz hf) (by rfl) T.isinstance (by decide +kernel) (pa_cons (pv 0) (pa_cons (pe_glob (v := .ref (a.C 8)) rfl (T.er 8 (by decide)).gl rfl) pa_nil))) pa_nil))))))
      (pss_cons (ps_set (i := 1) sc.nd rfl (by first | exact Or.inl rfl | exact Or.inr rfl) (pe_op op_cat (pv 1) (pe_lst (pa_cons (pe_callB (call_isP (T.er i hi).is (List.mem_singleton.mpr rfl) hz hf) (by rfl) T.isinstance (by decide +kernel) (pa_cons (pv 0) (pa_cons (pe_glob (v := .ref (a.C 9)) rfl (T.er 9 (by decide)).gl rfl) pa_nil))) (pa_cons (pe_callB (call_isP (T.er i hi).is (List.mem_singleton.mpr rfl) hz hf) (by rfl) T.isinstance (by decide +kernel) (pa_cons (pv 0) (pa_cons (pe_glob (v := .ref (a.C 10)) rfl (T.er 10 (by decide)).gl rfl) pa_nil))) (pa_cons (pe_callB (call_isP (T.er i hi).is (List.mem_singleton.mpr rfl) hz hf) (by rfl) T.isinstance (by decide +kernel) (pa_cons (pv 0) (pa_cons (pe_glob (v := .ref (a.C 11)) rfl (T.er 11 (by decide)).gl rfl) pa_nil))) pa_nil))))))
      (pss_cons (ps_set (i := 1) sc.nd rfl (by first | exact Or.inl rfl | exact Or.inr rfl) (pe_op op_cat (pv 1) (pe_lst (pa_cons (pe_callB (call_isP (T.er i hi).is (List.mem_singleton.mpr rfl) hz hf) (by rfl) T.isinstance (by decide +kernel) (pa_cons (pv 0) (pa_cons (pe_glob (v := .ref (a.C 12)) rfl (T.er 12 (by decide)).gl rfl) pa_nil))) (pa_cons (pe_callB (call_isP (T.er i hi).is (List.mem_singleton.mpr rfl) hz hf) (by rfl) T.isinstance (by decide +kernel) (pa_cons (pv 0) (pa_cons (pe_glob (v := .ref (a.C 13)) rfl (T.er 13 (by decide)).gl rfl) pa_nil))) (pa_cons (pe_callB (call_isP (T.er i hi).is (List.mem_singleton.mpr rfl) hz hf) (by rfl) T.isinstance (by decide +kernel) (pa_cons (pv 0) (pa_cons (pe_glob (v := .ref (a.C 14)) rfl (T.er 14 (by decide)).gl rfl) pa_nil))) pa_nil))))))
      (pss_cons (ps_set (i := 1) sc.nd rfl (by first | exact Or.inl rfl | exact Or.inr rfl) (pe_op op_cat (pv 1) (pe_lst (pa_cons (pe_callB (call_isP (T.er i hi).is (List.mem_singleton.mpr rfl) hz hf) (by rfl) T.isinstance (by decide +kernel) (pa_cons (pv 0) (pa_cons (pe_glob (v := .ref (a.C 15)) rfl (T.er 15 (by decide)).gl rfl) pa_nil))) (pa_cons (pe_callB (call_isP (T.er i hi).is (List.mem_singleton.mpr rfl) hz hf) (by rfl) T.isinstance (by decide +kernel) (pa_cons (pv 0) (pa_cons (pe_glob (v := .ref (a.C 16)) rfl (T.er 16 (by decide)).gl rfl) pa_nil))) (pa_cons (pe_callB (call_isP (T.er i hi).is (List.mem_singleton.mpr rfl) hz hf) (by rfl) T.isinstance (by decide +kernel) (pa_cons (pv 0) (pa_cons (pe_glob (v := .ref (a.C 17)) rfl (T.er 17 (by decide)).gl rfl) pa_nil))) pa_nil))))))
      (pss_cons (ps_set (i := 1) sc.nd rfl (by first | exact Or.inl rfl | exact Or.inr rfl) (pe_op op_cat (pv 1) (pe_lst (pa_cons (pe_callB (call_isP (T.er i hi).is (List.mem_singleton.mpr rfl) hz hf) (by rfl) T.isinstance (by decide +kernel) (pa_cons (pv 0) (pa_cons (pe_glob (v := .ref (a.C 18)) rfl (T.er 18 (by decide)).gl rfl) pa_nil))) (pa_cons (pe_callB (call_isP (T.er i hi).is (List.mem_singleton.mpr rfl) hz hf) (by rfl) T.isinstance (by decide +kernel) (pa_cons (pv 0) (pa_cons (pe_glob (v := .ref (a.C 19)) rfl (T.er 19 (by decide)).gl rfl) pa_nil))) (pa_cons (pe_callB (call_isP (T.er i hi).is (List.mem_singleton.mpr rfl) hz hf) (by rfl) T.isinstance (by decide +kernel) (pa_cons (pv 0) (pa_cons (pe_glob (v := .ref (a.C 20)) rfl (T.er 20 (by decide)).gl rfl) pa_nil))) pa_nil))))))
      (pss_one (ps_ret (pe_op op_cat (pv 1) (pe_lst (pa_cons (pe_callB (call_isP (T.er i hi).is (List.mem_singleton.mpr rfl) hz hf) (by rfl) T.isinstance (by decide +kernel) (pa_cons (pv 0) (pa_cons (pe_glob (v := .ref (a.C 21)) rfl (T.er 21 (by decide)).gl rfl) pa_nil))) (pa_cons (pe_callB (call_isP (T.er i hi).is (List.mem_singleton.mpr rfl) hz hf) (by rfl) T.isinstance (by decide +kernel) (pa_cons (pv 0) (pa_cons (pe_glob (v := .ref (a.C 22)) rfl (T.er 22 (by decide)).gl rfl) pa_nil))) (pa_cons (pe_callB (call_isP (T.er i hi).is (List.mem_singleton.mpr rfl) hz hf) (by rfl) T.isinstance (by decide +kernel) (pa_cons (pv 0) (pa_cons (pe_glob (v := .ref (a.C 23)) rfl (T.er 23 (by decide)).gl rfl) pa_nil))) pa_nil)))))))))))))), ?_⟩
    have hs : Same H H := fun _ _ e => e
    walk_at "go"
    refine i_isP ((T.er i hi).kt 0 (by decide)) (by walk_at "dk") ?_
    walk_at "go"
    refine i_isP ((T.er i hi).kt 1 (by decide)) (by walk_at "dk") ?_
    walk_at "go"
    refine i_isP ((T.er i hi).kt 2 (by decide)) (by walk_at "dk") ?_
    walk_at "go"
    refine i_isP ((T.er i hi).kt 3 (by decide)) (by walk_at "dk") ?_
    walk_at "go"
    refine i_isP ((T.er i hi).kt 4 (by decide)) (by walk_at "dk") ?_
    walk_at "go"
    refine i_isP ((T.er i hi).kt 5 (by decide)) (by walk_at "dk") ?_
    walk_at "go"
    refine ⟨_, _, _, _, rfl, rfl, by walk_at "hp", by walk_at "hp", by simp only [List.length_cons, List.length_nil, List.length_append]; decide, fun _ _ => ?_⟩
    walk_at "go"
    refine i_isP ((T.er i hi).kt 6 (by decide)) (by walk_at "dk") ?_
    walk_at "go"
    refine i_isP ((T.er i hi).kt 7 (by decide)) (by walk_at "dk") ?_
    walk_at "go"
    refine i_isP ((T.er i hi).kt 8 (by decide)) (by walk_at "dk") ?_
    walk_at "go"
    refine ⟨_, _, _, _, rfl, rfl, by walk_at "hp", by walk_at "hp", by simp only [List.length_cons, List.length_nil, List.length_append]; decide, fun _ _ => ?_⟩
    walk_at "go"
    refine i_isP ((T.er i hi).kt 9 (by decide)) (by walk_at "dk") ?_
    walk_at "go"
    refine i_isP ((T.er i hi).kt 10 (by decide)) (by walk_at "dk") ?_
    walk_at "go"
    refine i_isP ((T.er i hi).kt 11 (by decide)) (by walk_at "dk") ?_
    walk_at "go"
    refine ⟨_, _, _, _, rfl, rfl, by walk_at "hp", by walk_at "hp", by simp only [List.length_cons, List.length_nil, List.length_append]; decide, fun _ _ => ?_⟩
    walk_at "go"
    refine i_isP ((T.er i hi).kt 12 (by decide)) (by walk_at "dk") ?_
    walk_at "go"
    refine i_isP ((T.er i hi).kt 13 (by decide)) (by walk_at "dk") ?_
    walk_at "go"
    refine i_isP ((T.er i hi).kt 14 (by decide)) (by walk_at "dk") ?_
    walk_at "go"
    refine ⟨_, _, _, _, rfl, rfl, by walk_at "hp", by walk_at "hp", by simp only [List.length_cons, List.length_nil, List.length_append]; decide, fun _ _ => ?_⟩
    walk_at "go"
    refine i_isP ((T.er i hi).kt 15 (by decide)) (by walk_at "dk") ?_
    walk_at "go"
    refine i_isP ((T.er i hi).kt 16 (by decide)) (by walk_at "dk") ?_
    walk_at "go"
    refine i_isP ((T.er i hi).kt 17 (by decide)) (by walk_at "dk") ?_
    walk_at "go"
    refine ⟨_, _, _, _, rfl, rfl, by walk_at "hp", by walk_at "hp", by simp only [List.length_cons, List.length_nil, List.length_append]; decide, fun _ _ => ?_⟩
    walk_at "go"
    refine i_isP ((T.er i hi).kt 18 (by decide)) (by walk_at "dk") ?_
    walk_at "go"
    refine i_isP ((T.er i hi).kt 19 (by decide)) (by walk_at "dk") ?_
    walk_at "go"
    refine i_isP ((T.er i hi).kt 20 (by decide)) (by walk_at "dk") ?_
    walk_at "go"
    refine ⟨_, _, _, _, rfl, rfl, by walk_at "hp", by walk_at "hp", by simp only [List.length_cons, List.length_nil, List.length_append]; decide, fun _ _ => ?_⟩
    walk_at "go"
    refine i_isP ((T.er i hi).kt 21 (by decide)) (by walk_at "dk") ?_
    walk_at "go"
    refine i_isP ((T.er i hi).kt 22 (by decide)) (by walk_at "dk") ?_
    walk_at "go"
    refine i_isP ((T.er i hi).kt 23 (by decide)) (by walk_at "dk") ?_
    walk_at "go"
    refine ⟨_, _, _, _, rfl, rfl, by walk_at "hp", by walk_at "hp", by simp only [List.length_cons, List.length_nil, List.length_append]; decide, fun _ _ => ?_⟩
    walk_at "go"
    exact k _ _ (by rw [upd_same]; rfl) (by walk_at "sm")
end
end Me
set_option maxHeartbeats 4000000
namespace Me
open PySem L2


/-- the dict of an error with these fields -/
def DictHas (H : Hp) (fs : List (Str × V)) : Option Addr → Prop
  | none => fs = []
  | some dd => fs ≠ [] ∧ H dd = some (.xd fs)
/-- the values of the fields, as the law lists them -/
def outs (i : Nat) (y z : V) : List V := match fsOf i with
  | [] => []
  | [_] => [y]
  | _ => [y, z]
theorem in_int {i : Nat} {xs : List Int} : inV (.int i) (xs.map V.int) = decide ((i : Int) ∈ xs) := by
  induction xs with
  | nil => simp [inV]
  | cons x r ih =>
    unfold inV at ih ⊢
    rw [List.map_cons, List.any_cons, ih]
    by_cases h : x = (i : Int)
    · subst h; simp [eqV]
    · have h2 : (i : Int) ≠ x := fun e => h e.symm
      simp [eqV, h, h2]
theorem i_in {K : PySem.W.Frag} {i : Nat} {p : Addr} {xs : List Int} {H : Hp} {Q : VK} (h : H p = some (.lst (xs.map V.int))) (q : Q (.bl (decide ((i : Int) ∈ xs))) H) : rIn K false (.int i) (.ref p) H Q :=
  ⟨p, _, rfl, .inl (SqL.of h), rfl, by rw [List.all_map]; exact List.all_eq_true.mpr fun _ _ => rfl, by rw [if_neg Bool.false_ne_true, in_int]; exact q⟩
theorem i_xp {a dd : Addr} {d : Option Addr} {f : Str} {v : V} {fs : List (Str × V)} {i : Nat} {σ : L2.St} {H : Hp} {Q : VK} (e : σ[i]? = some (some (.ref a))) (ed : d = some dd) (h : H dd = some (.xd fs)) (l : fs.lookup f = some v) (q : Q v H) : tXp a d f (tVar i) σ H Q := ⟨_, e, rfl, dd, fs, v, ed, h, l, q⟩
theorem dict_some {H : Hp} {q : Str × V} {r : List (Str × V)} {d : Option Addr} (h : DictHas H (q :: r) d) : ∃ dd, d = some dd ∧ H dd = some (.xd (q :: r)) := by
  cases d with
  | none => exact absurd h (List.cons_ne_nil _ _)
  | some dd => exact ⟨dd, rfl, h.2⟩
section
variable {P : Program} {w : World} {K : PySem.W.Frag} {mg : Str → Option Value} {base : Heap} {a : Ad}
def spFields (C : Nat → Addr) (p : Addr × Obj) : Sp := fun vs H Q _ => ∃ (i : Nat) (y z : V) (d : Option Addr), i < 24 ∧ vs = [.ref p.1, .int i] ∧ Zc (.ref (C i)) d p.2 ∧ (∃ vs, p.2.data = .fields vs) ∧ DictHas H (fvs i y z) d ∧ ∀ q H', H' q = some (.tup (outs i y z)) → Same H H' → Q (.ref q) H'
theorem ok_fields (T : Txt P K mg a) : FnP P w K mg base 1 a._law_fields.f a._law_fields.fd ["_law_e", "_law_which"] (spFields a.C) := by
  have sc : FnScope ["_law_e", "_law_which"] ["_law_e", "_law_which"] (defScope (top 37)) := ⟨rfl, rfl, rfl, by decide +kernel, rfl, by decide +kernel, by decide +kernel⟩
  refine okP T._law_fields.fn sc (fun p vs H Q E h => ?_) (fun cdv A outer s H vs Q E p hr h => ?_)
  · obtain ⟨i, y, z, d, _, rfl, _⟩ := h
    rfl
  · obtain ⟨i, y, z, d, hi, rfl, hz, hf, hd, k⟩ := h
    refine ⟨_, (pss_cons (ps_if (pt_cmpR op_in_seq (pv 1) (pe_lst (pa_cons pe_int (pa_cons pe_int (pa_cons pe_int pa_nil)))) (by rfl))
      (pss_one (ps_ret (pe_tup (pa_cons (pe_xP (T.er i hi).is ((T.er i hi).noA "part" (by decide)) (List.mem_singleton.mpr rfl) hz hf (pv 0)) pa_nil))))
      pss_nil)
      (pss_cons (ps_if (pt_cmpR op_in_seq (pv 1) (pe_lst (pa_cons pe_int (pa_cons pe_int (pa_cons pe_int pa_nil)))) (by rfl))
      (pss_one (ps_ret (pe_tup (pa_cons (pe_xP (T.er i hi).is ((T.er i hi).noA "name" (by decide)) (List.mem_singleton.mpr rfl) hz hf (pv 0)) pa_nil))))
      pss_nil)
      (pss_cons (ps_if (pt_cmpR op_in_seq (pv 1) (pe_lst (pa_cons pe_int (pa_cons pe_int pa_nil))) (by rfl))
      (pss_one (ps_ret (pe_tup (pa_cons (pe_xP (T.er i hi).is ((T.er i hi).noA "name" (by decide)) (List.mem_singleton.mpr rfl) hz hf (pv 0)) (pa_cons (pe_xP (T.er i hi).is ((T.er i hi).noA "inner" (by decide)) (List.mem_singleton.mpr rfl) hz hf (pv 0)) pa_nil)))))
      pss_nil)
      (pss_cons (ps_if (pt_cmpR op_in_seq (pv 1) (pe_lst (pa_cons pe_int (pa_cons pe_int pa_nil))) (by rfl))
      (pss_one (ps_ret (pe_tup (pa_cons (pe_xP (T.er i hi).is ((T.er i hi).noA "path" (by decide)) (List.mem_singleton.mpr rfl) hz hf (pv 0)) pa_nil))))
      pss_nil)
      (pss_cons (ps_if (pt_cmpR op_in_seq (pv 1) (pe_lst (pa_cons pe_int (pa_cons pe_int pa_nil))) (by rfl))
      (pss_one (ps_ret (pe_tup (pa_cons (pe_xP (T.er i hi).is ((T.er i hi).noA "at" (by decide)) (List.mem_singleton.mpr rfl) hz hf (pv 0)) pa_nil))))
      pss_nil)
      (pss_cons (ps_if (pt_cmpR op_eq (pv 1) pe_int (nomark _))
      (pss_one (ps_ret (pe_tup (pa_cons (pe_xP (T.er i hi).is ((T.er i hi).noA "due" (by decide)) (List.mem_singleton.mpr rfl) hz hf (pv 0)) pa_nil))))
      pss_nil)
      (pss_cons (ps_if (pt_cmpR op_eq (pv 1) pe_int (nomark _))
      (pss_one (ps_ret (pe_tup (pa_cons (pe_xP (T.er i hi).is ((T.er i hi).noA "most" (by decide)) (List.mem_singleton.mpr rfl) hz hf (pv 0)) pa_nil))))
      pss_nil)
      (pss_cons (ps_if (pt_cmpR op_eq (pv 1) pe_int (nomark _))
      (pss_one (ps_ret (pe_tup (pa_cons (pe_xP (T.er i hi).is ((T.er i hi).noA "reason" (by decide)) (List.mem_singleton.mpr rfl) hz hf (pv 0)) pa_nil))))
      pss_nil)
      (pss_cons (ps_if (pt_cmpR op_eq (pv 1) pe_int (nomark _))
      (pss_one (ps_ret (pe_tup (pa_cons (pe_xP (T.er i hi).is ((T.er i hi).noA "at" (by decide)) (List.mem_singleton.mpr rfl) hz hf (pv 0)) (pa_cons (pe_xP (T.er i hi).is ((T.er i hi).noA "word" (by decide)) (List.mem_singleton.mpr rfl) hz hf (pv 0)) pa_nil)))))
      pss_nil)
      (pss_cons (ps_if (pt_cmpR op_eq (pv 1) pe_int (nomark _))
      (pss_one (ps_ret (pe_tup (pa_cons (pe_xP (T.er i hi).is ((T.er i hi).noA "line" (by decide)) (List.mem_singleton.mpr rfl) hz hf (pv 0)) pa_nil))))
      pss_nil)
      (pss_one (ps_ret (pe_tup pa_nil))))))))))))), ?_⟩
    have hs : Same H H := fun _ _ e => e
    walk_at "go"
    refine i_in (xs := [0, 1, 13]) upd_same ?_
    walk_at "go"
    refine i_itd (fun e => ?_) (fun e => ?_)
    · have e2 : i = 0 ∨ i = 1 ∨ i = 13 := by simp at e; omega
      rcases e2 with rfl | rfl | rfl
      all_goals
        obtain ⟨dd, rfl, hdd⟩ := dict_some hd
        walk_at "go"
        refine i_xp rfl rfl (by walk_at "hp") rfl ?_
        walk_at "go"
        exact k _ _ (by rw [upd_same]; rfl) (by walk_at "sm")
    have e100 : i ≠ 0 ∧ i ≠ 1 ∧ i ≠ 13 := by simp at e; omega
    clear e
    walk_at "go"
    refine i_in (xs := [2, 3, 23]) upd_same ?_
    walk_at "go"
    refine i_itd (fun e => ?_) (fun e => ?_)
    · have e2 : i = 2 ∨ i = 3 ∨ i = 23 := by simp at e; omega
      rcases e2 with rfl | rfl | rfl
      all_goals
        obtain ⟨dd, rfl, hdd⟩ := dict_some hd
        walk_at "go"
        refine i_xp rfl rfl (by walk_at "hp") rfl ?_
        walk_at "go"
        exact k _ _ (by rw [upd_same]; rfl) (by walk_at "sm")
    have e102 : i ≠ 2 ∧ i ≠ 3 ∧ i ≠ 23 := by simp at e; omega
    clear e
    walk_at "go"
    refine i_in (xs := [4, 5]) upd_same ?_
    walk_at "go"
    refine i_itd (fun e => ?_) (fun e => ?_)
    · have e2 : i = 4 ∨ i = 5 := by simp at e; omega
      rcases e2 with rfl | rfl
      all_goals
        obtain ⟨dd, rfl, hdd⟩ := dict_some hd
        walk_at "go"
        refine i_xp rfl rfl (by walk_at "hp") rfl ?_
        walk_at "go"
        refine i_xp rfl rfl (by walk_at "hp") rfl ?_
        walk_at "go"
        exact k _ _ (by rw [upd_same]; rfl) (by walk_at "sm")
    have e104 : i ≠ 4 ∧ i ≠ 5 := by simp at e; omega
    clear e
    walk_at "go"
    refine i_in (xs := [8, 19]) upd_same ?_
    walk_at "go"
    refine i_itd (fun e => ?_) (fun e => ?_)
    · have e2 : i = 8 ∨ i = 19 := by simp at e; omega
      rcases e2 with rfl | rfl
      all_goals
        obtain ⟨dd, rfl, hdd⟩ := dict_some hd
        walk_at "go"
        refine i_xp rfl rfl (by walk_at "hp") rfl ?_
        walk_at "go"
        exact k _ _ (by rw [upd_same]; rfl) (by walk_at "sm")
    have e108 : i ≠ 8 ∧ i ≠ 19 := by simp at e; omega
    clear e
    walk_at "go"
    refine i_in (xs := [9, 11]) upd_same ?_
    walk_at "go"
    refine i_itd (fun e => ?_) (fun e => ?_)
    · have e2 : i = 9 ∨ i = 11 := by simp at e; omega
      rcases e2 with rfl | rfl
      all_goals
        obtain ⟨dd, rfl, hdd⟩ := dict_some hd
        walk_at "go"
        refine i_xp rfl rfl (by walk_at "hp") rfl ?_
        walk_at "go"
        exact k _ _ (by rw [upd_same]; rfl) (by walk_at "sm")
    have e109 : i ≠ 9 ∧ i ≠ 11 := by simp at e; omega
    clear e
    walk_at "go"
    refine i_itei (fun e => ?_) (fun e => ?_)
    · have e2 : i = 10 := by omega
      subst e2
      obtain ⟨dd, rfl, hdd⟩ := dict_some hd
      walk_at "go"
      refine i_xp rfl rfl (by walk_at "hp") rfl ?_
      walk_at "go"
      exact k _ _ (by rw [upd_same]; rfl) (by walk_at "sm")
    have e110 : i ≠ 10 := by omega
    clear e
    walk_at "go"
    refine i_itei (fun e => ?_) (fun e => ?_)
    · have e2 : i = 14 := by omega
      subst e2
      obtain ⟨dd, rfl, hdd⟩ := dict_some hd
      walk_at "go"
      refine i_xp rfl rfl (by walk_at "hp") rfl ?_
      walk_at "go"
      exact k _ _ (by rw [upd_same]; rfl) (by walk_at "sm")
    have e114 : i ≠ 14 := by omega
    clear e
    walk_at "go"
    refine i_itei (fun e => ?_) (fun e => ?_)
    · have e2 : i = 16 := by omega
      subst e2
      obtain ⟨dd, rfl, hdd⟩ := dict_some hd
      walk_at "go"
      refine i_xp rfl rfl (by walk_at "hp") rfl ?_
      walk_at "go"
      exact k _ _ (by rw [upd_same]; rfl) (by walk_at "sm")
    have e116 : i ≠ 16 := by omega
    clear e
    walk_at "go"
    refine i_itei (fun e => ?_) (fun e => ?_)
    · have e2 : i = 20 := by omega
      subst e2
      obtain ⟨dd, rfl, hdd⟩ := dict_some hd
      walk_at "go"
      refine i_xp rfl rfl (by walk_at "hp") rfl ?_
      walk_at "go"
      refine i_xp rfl rfl (by walk_at "hp") rfl ?_
      walk_at "go"
      exact k _ _ (by rw [upd_same]; rfl) (by walk_at "sm")
    have e120 : i ≠ 20 := by omega
    clear e
    walk_at "go"
    refine i_itei (fun e => ?_) (fun e => ?_)
    · have e2 : i = 21 := by omega
      subst e2
      obtain ⟨dd, rfl, hdd⟩ := dict_some hd
      walk_at "go"
      refine i_xp rfl rfl (by walk_at "hp") rfl ?_
      walk_at "go"
      exact k _ _ (by rw [upd_same]; rfl) (by walk_at "sm")
    have e121 : i ≠ 21 := by omega
    clear e
    walk_at "go"
    have e2 : i = 6 ∨ i = 7 ∨ i = 12 ∨ i = 15 ∨ i = 17 ∨ i = 18 ∨ i = 22 := by omega
    clear e100 e102 e104 e108 e109 e110 e114 e116 e120 e121
    rcases e2 with rfl | rfl | rfl | rfl | rfl | rfl | rfl
    all_goals exact k _ _ (by rw [upd_same]; rfl) (by walk_at "sm")
end
end Me
set_option maxHeartbeats 4000000
namespace Me
open PySem L2


theorem thrown_of {C : Addr} {fs : List (Str × V)} {W : Value → Option Addr → Hp → Prop} {H : Hp} (h0 : fs = [] → W (.ref C) none H) (h1 : ∀ d, H d = none → fs ≠ [] → W (.ref C) (some d) (upd H d (.xd fs))) : thrown C fs W H := by
  cases fs with
  | nil => exact h0 rfl
  | cons p r => exact fun d n => h1 d n (List.cons_ne_nil _ _)
theorem DictHas.ok {H : Hp} {fs : List (Str × V)} {d : Option Addr} (h : DictHas H fs d) : DictOk H d := by
  cases d with
  | none => trivial
  | some dd => exact ⟨fs, h.2⟩
theorem DictHas.same {H H' : Hp} {fs : List (Str × V)} {d : Option Addr} (h : DictHas H fs d) (s : Same H H') : DictHas H' fs d := by
  cases d with
  | none => exact h
  | some dd => exact ⟨h.1, s _ _ h.2⟩
/-- what the law makes of a caught error -/
def tSu (K : PySem.W.Frag) (C : Nat → Addr) (i : Nat) (oe : Obj) (a : Addr) (d : Option Addr) : TS := tRet (tTup (tCons (tCB (rIsP K a (C i) d) (tCons (tVar 3) (tCons (tC (.ty "ValueError")) tNil)))
  (tCons (tCall (spClasses C (a, oe)) [] E0 (tCons (tVar 3) tNil)) (tCons (tCall (spFields C (a, oe)) [] E0 (tCons (tVar 3) (tCons (tVar 0) tNil))) tNil))))
def tsAll (K : PySem.W.Frag) (C : Nat → Addr) : Addr → Value → Option Addr → TS := fun a cls d D σ H => ∃ i, i < 24 ∧ cls = .ref (C i) ∧ ∀ oe, Zc cls d oe → (∃ vs, oe.data = .fields vs) → tSu K C i oe a d D σ H
section
variable {P : Program} {w : World} {K : PySem.W.Frag} {mg : Str → Option Value} {base : Heap} {a : Ad}
def spCaught (C : Nat → Addr) : Sp := fun vs H Q _ => ∃ (k : Nat) (y z : V), vs = [.int k, y, z] ∧ k < 24 ∧ ∀ q l t H', H' q = some (.tup [.bl true, .ref l, .ref t]) → H' l = some (.lst (bools k)) → H' t = some (.tup (outs k y z)) → Same H H' → Q (.ref q) H'
theorem ok_caught (T : Txt P K mg a) : FnOk P w K mg base CX0 6 a._law_caught.f a._law_caught.fd ["_law_which", "_law_one", "_law_other"] (spCaught a.C) := by
  have GR : FnOk P w K mg base (L2.CX P w) 4 a._law_raise.f a._law_raise.fd ["_law_which", "_law_one", "_law_other"] (spRaise a.C) := ok_raise T
  have GC : FnP P w K mg base 1 a._law_classes.f a._law_classes.fd ["_law_e"] (spClasses a.C) := ok_classes T
  have GF : FnP P w K mg base 1 a._law_fields.f a._law_fields.fd ["_law_e", "_law_which"] (spFields a.C) := ok_fields T
  have sc : FnScope ["_law_which", "_law_one", "_law_other", "_law_e"] ["_law_which", "_law_one", "_law_other"] (defScope (top 38)) := ⟨rfl, rfl, rfl, by decide +kernel, rfl, by decide +kernel, by decide +kernel⟩
  refine T._law_caught.ok sc (fun vs H Q E h => ?_) (fun cdv A outer s H vs Q E hr h => ?_)
  · obtain ⟨k, y, z, rfl, _⟩ := h
    rfl
  · obtain ⟨k, y, z, rfl, hk, kq⟩ := h
    have hr4 : Room 4 _ := hr.mono (by decide)
    have hr1 : Room 1 _ := hr.mono (by decide)
    refine ⟨_, pss_cons (ps_try_as (i := 3) (tb := fun W => tDrop (tCallS (spRaise a.C) (WE W) (tCons (tVar 0) (tCons (tVar 1) (tCons (tVar 2) tNil))))) (ts := tsAll K a.C) (Wout := fun _ _ _ _ => False) rfl rfl sc.nd rfl rfl ⟨rfl, by decide, Or.inl T.rm⟩ takes0
      (fun W pn xe tk _ => pss_one (ps_expr (by exact pe_callS GR hr4 rfl T._law_raise.mg T._law_raise.kp T._law_raise.b (fun σ => passAt tk σ) (by exact pa_cons (pv 0) (pa_cons (pv 1) (pa_cons (pv 2) pa_nil))))))
      (fun e oe cls d pn hz hf => ?su)) (pss_one (ps_ret pe_non)), ?_⟩
    case su =>
      refine ⟨fun pins s1 σ1 H1 D1 I1 h1 => ?_⟩
      obtain ⟨i, hi, ec, kk⟩ := h1
      subst ec
      refine PSs.run (t := tSu K a.C i oe e d) ?_ pins s1 σ1 H1 D1 I1 (kk oe hz hf)
      exact pss_one (ps_ret (pe_tup (pa_cons (pe_callB (call_isP (T.er i hi).is List.mem_cons_self hz hf) (by rfl) T.isinstance (by decide +kernel) (pa_cons (pv 3) (pa_cons (pe_bltn (v := .ty "ValueError") (by rfl) T.ValueError (by decide +kernel) rfl) pa_nil)))
        (pa_cons (pe_callP GC ⟨hr1.dp, hr1.un⟩ List.mem_cons_self rfl T._law_classes.mg T._law_classes.kp T._law_classes.b (pa_cons (pv 3) pa_nil)) (pa_cons (pe_callP GF ⟨hr1.dp, hr1.un⟩ List.mem_cons_self rfl T._law_fields.mg T._law_fields.kp T._law_fields.b (pa_cons (pv 3) (pa_cons (pv 0) pa_nil))) pa_nil)))))
    have main : ∀ (d : Option Addr) (H0 : Hp), Same H H0 → DictHas H0 (fvs k y z) d → wAs K (.ref a.rm) 3 (tsAll K a.C) (fun _ _ _ _ => False) { nx := tRet (tC V.non) { nx := fun _ H' => Q .non H', rt := Q }, rt := Q } (.ref (a.C k)) d (L2.start ["_law_which", "_law_one", "_law_other", "_law_e"] [.int k, y, z]) H0 := by
      intro d H0 s0 hd
      refine ⟨true, (T.er k hk).ex, fun _ e0 ne => ⟨k, hk, rfl, fun oe hz hf => ?_⟩, fun z => Bool.noConfusion z⟩
      unfold tSu
      walk_at "go"
      refine ⟨_, _, _, rfl, .ty _, (T.er k hk).ve, hd.ok, ?_⟩
      walk_at "go"
      refine ⟨k, d, hk, rfl, hz, hf, hd.ok, fun l H1 hl hs1 => ?_⟩
      walk_at "go"
      refine ⟨k, y, z, d, hk, rfl, hz, hf, hd.same hs1, fun t H2 ht hs2 => ?_⟩
      walk_at "go"
      rename_i q nq
      refine kq q l t _ upd_same ?_ ?_ (same_new (fun b o e => hs2 _ _ (hs1 _ _ (s0 _ _ e))) nq)
      · rw [upd_ne (ne_of_none (hs2 _ _ hl) nq)]; exact hs2 _ _ hl
      · rw [upd_ne (ne_of_none ht nq)]; exact ht
    walk_at "go"
    refine ⟨_, rfl, _, rfl, _, rfl, k, y, z, rfl, hk, thrown_of (fun e => ?_) (fun d n ne => ?_)⟩
    · exact main none H (fun _ _ e => e) e
    · exact main (some d) _ (same_new (fun _ _ e => e) n) ⟨ne, upd_same⟩
end
end Me
set_option maxHeartbeats 4000000
namespace Me
open PySem L2


/-! ### things -/
inductive Th (H : Hp) : V → Prop where
  | non : Th H .non
  | bl (b : Bool) : Th H (.bl b)
  | int (i : Int) : Th H (.int i)
  | str (x : Str) : Th H (.str x)
  | tup {a : Addr} {xs : List V} (h : H a = some (.tup xs)) : Th H (.ref a)
  | lst {a : Addr} {xs : List V} (h : H a = some (.lst xs)) : Th H (.ref a)
  | dK {a : Addr} {kvs : List (Key × V)} (h : H a = some (.dK kvs)) : Th H (.ref a)
def isI : V → Bool
  | .int _ => true
  | _ => false
theorem Th.ty {K : PySem.W.Frag} {H : Hp} {x : V} (h : Th H x) : ∃ t, TyX K H x (.type t) ∧ t ∈ ["NoneType", "bool", "int", "str", "tuple", "list", "dict"] ∧ (t = "int" ↔ isI x = true) := by
  cases h with
  | non => exact ⟨_, .base .non, by simp, by simp [isI]⟩
  | bl b => exact ⟨_, .base (.bl b), by simp, by simp [isI]⟩
  | int i => exact ⟨_, .base (.int i), by simp, by simp [isI]⟩
  | str x => exact ⟨_, .base (.str x), by simp, by simp [isI]⟩
  | tup h => exact ⟨_, .base (.tup h), by simp, by simp [isI]⟩
  | lst h => exact ⟨_, .base (.lst h), by simp, by simp [isI]⟩
  | dK h => exact ⟨_, .base (.dK h), by simp, by simp [isI]⟩
/-- values that are the same, to a depth -/
def Eqv (H : Hp) : Nat → V → V → Prop
  | 0, x, y => x = y ∧ flatV x = true
  | n + 1, x, y => (x = y ∧ flatV x = true) ∨ ∃ p q xs ys, x = .ref p ∧ y = .ref q ∧ ((H p = some (.tup xs) ∧ H q = some (.tup ys)) ∨ (H p = some (.lst xs) ∧ H q = some (.lst ys))) ∧ xs.length = ys.length ∧ xs.length ≤ 1000 ∧
    ∀ (i : Nat) x y, xs[i]? = some x → ys[i]? = some y → Eqv H n x y
theorem i_yes {c : Bool} {A B : Prop} (h : c = true) (q : A) : if c = true then A else B := by rw [if_pos h]; exact q
theorem i_no {c : Bool} {A B : Prop} (h : c = false) (q : B) : if c = true then A else B := by rw [h, if_neg Bool.false_ne_true]; exact q
end Me
local macro_rules | `(tactic| walk_at "go3") => `(tactic| repeat (first | walk_at "go1" | (with_reducible refine And.intro (a := L2.V.non = L2.V.non) rfl ?_) | ((with_reducible refine' Me.i_yes ?_ ?_); (first | rfl | exact decide_eq_true rfl)) | ((with_reducible refine' Me.i_no ?_ ?_); (first | rfl | (simp; done)))))
namespace Me
open PySem L2
section
variable {P : Program} {w : World} {K : PySem.W.Frag} {mg : Str → Option Value} {base : Heap} {a : Ad}
def spIsInt : Sp := fun vs H Q _ => ∃ x, vs = [x] ∧ Th H x ∧ Q (.bl (isI x)) H
theorem ok_law_is_int (T : Txt P K mg a) : FnOk P w K mg base CX0 1 a._law_is_int.f a._law_is_int.fd ["_law_told"] spIsInt := by
  have sc : FnScope ["_law_told"] ["_law_told"] (defScope (top 27)) := ⟨rfl, rfl, rfl, by decide +kernel, rfl, by decide +kernel, by decide +kernel⟩
  refine T._law_is_int.ok sc (fun vs H Q E h => ?_) (fun cdv A outer s H vs Q E hr h => ?_)
  · obtain ⟨x, rfl, _⟩ := h; rfl
  · obtain ⟨x, rfl, hx, k⟩ := h
    refine ⟨_, (pss_one (ps_ret (pe_and (pe_callB call_isi (by rfl) T.isinstance (by decide +kernel) (pa_cons (pv 0) (pa_cons (pe_bltn (v := .ty "int") (by rfl) T.int (by decide +kernel) rfl) pa_nil))) (pe_one (pe_not (pe_callB call_isi (by rfl) T.isinstance (by decide +kernel) (pa_cons (pv 0) (pa_cons (pe_bltn (v := .ty "bool") (by rfl) T.bool (by decide +kernel) rfl) pa_nil)))))))), ?_⟩
    cases hx <;> (walk_at "go"; exact k)
def spSame (n : Nat) : Sp := fun vs H Q _ => ∃ x y, vs = [x, y] ∧ Eqv H n x y ∧ Q (.bl true) H
theorem Eqv.ways {H : Hp} {n : Nat} {x y : V} (h : Eqv H n x y) : (x = y ∧ flatV x = true) ∨ ∃ m, n = m + 1 ∧ ∃ p q xs ys, x = .ref p ∧ y = .ref q ∧ ((H p = some (.tup xs) ∧ H q = some (.tup ys)) ∨ (H p = some (.lst xs) ∧ H q = some (.lst ys))) ∧ xs.length = ys.length ∧ xs.length ≤ 1000 ∧
    ∀ (i : Nat) x y, xs[i]? = some x → ys[i]? = some y → Eqv H m x y := by
  cases n with
  | zero => exact .inl h
  | succ m =>
    rcases h with h | ⟨p, q, xs, ys, h⟩
    · exact .inl h
    · exact .inr ⟨m, rfl, p, q, xs, ys, h⟩
theorem same_step (T : Txt P K mg a) (n : Nat) {sp : Sp} (G__law_same : FnOk P w K mg base CX0 (n + 1) a._law_same.f a._law_same.fd ["_law_told", "_law_due"] sp) (hsp : ∀ m, n = m + 1 → ∀ vs H Q E, spSame m vs H Q E → sp vs H Q E) :
    FnOk P w K mg base CX0 (n + 2) a._law_same.f a._law_same.fd ["_law_told", "_law_due"] (spSame n) := by
    have G__law_is_int : FnOk P w K mg base CX0 1 a._law_is_int.f a._law_is_int.fd ["_law_told"] spIsInt := ok_law_is_int T
    have sc : FnScope ["_law_told", "_law_due", "_law_k"] ["_law_told", "_law_due"] (defScope (top 29)) := ⟨rfl, rfl, rfl, by decide +kernel, rfl, by decide +kernel, by decide +kernel⟩
    refine T._law_same.ok sc (fun vs H Q E h => ?_) (fun cdv A outer s H vs Q E hr h => ?_)
    · obtain ⟨x, y, rfl, _⟩ := h
      rfl
    · obtain ⟨x, y, rfl, he, k⟩ := h
      refine ⟨_, (pss_cons (ps_if (pt_cmpR op_isN (pv 1) pe_non (nomark _))
      (pss_one (ps_ret (pe_cmpR op_isN (pv 0) pe_non (nomark _))))
      pss_nil)
      (pss_cons (ps_if (pt_val (pe_callB call_isi (by rfl) T.isinstance (by decide +kernel) (pa_cons (pv 1) (pa_cons (pe_bltn (v := .ty "bool") (by rfl) T.bool (by decide +kernel) rfl) pa_nil))))
      (pss_one (ps_ret (pe_and (pe_callB call_isi (by rfl) T.isinstance (by decide +kernel) (pa_cons (pv 0) (pa_cons (pe_bltn (v := .ty "bool") (by rfl) T.bool (by decide +kernel) rfl) pa_nil))) (pe_one (pe_cmpR op_eq (pv 0) (pv 1) (nomark _))))))
      pss_nil)
      (pss_cons (ps_if (pt_val (pe_callB call_isi (by rfl) T.isinstance (by decide +kernel) (pa_cons (pv 1) (pa_cons (pe_bltn (v := .ty "int") (by rfl) T.int (by decide +kernel) rfl) pa_nil))))
      (pss_one (ps_ret (pe_and (pe_call G__law_is_int (hr.mono (by first | decide | omega)) rfl T._law_is_int.mg T._law_is_int.kp T._law_is_int.b .nil pass0 (pa_cons (pv 0) pa_nil)) (pe_one (pe_cmpR op_eq (pv 0) (pv 1) (nomark _))))))
      pss_nil)
      (pss_cons (ps_if (pt_val (pe_callB call_isi (by rfl) T.isinstance (by decide +kernel) (pa_cons (pv 1) (pa_cons (pe_bltn (v := .ty "str") (by rfl) T.str (by decide +kernel) rfl) pa_nil))))
      (pss_one (ps_ret (pe_and (pe_callB call_isi (by rfl) T.isinstance (by decide +kernel) (pa_cons (pv 0) (pa_cons (pe_bltn (v := .ty "str") (by rfl) T.str (by decide +kernel) rfl) pa_nil))) (pe_one (pe_cmpR op_eq (pv 0) (pv 1) (nomark _))))))
      pss_nil)
      (pss_cons (ps_if (pt_val (pe_callB call_isi (by rfl) T.isinstance (by decide +kernel) (pa_cons (pv 1) (pa_cons (pe_bltn (v := .ty "dict") (by rfl) T.dict (by decide +kernel) rfl) pa_nil))))
      (pss_one ps_never)
      pss_nil)
      (pss_cons (ps_if (PW.pt (pw_and (pt_val (pe_callB call_isi (by rfl) T.isinstance (by decide +kernel) (pa_cons (pv 1) (pa_cons (pe_bltn (v := .ty "list") (by rfl) T.list (by decide +kernel) rfl) pa_nil)))) (pw_and1 (pt_not (pt_val (pe_callB call_isi (by rfl) T.isinstance (by decide +kernel) (pa_cons (pv 0) (pa_cons (pe_bltn (v := .ty "list") (by rfl) T.list (by decide +kernel) rfl) pa_nil))))))))
      (pss_one (ps_ret pe_bl))
      pss_nil)
      (pss_cons (ps_if (PW.pt (pw_and (pt_val (pe_callB call_isi (by rfl) T.isinstance (by decide +kernel) (pa_cons (pv 1) (pa_cons (pe_bltn (v := .ty "tuple") (by rfl) T.tuple (by decide +kernel) rfl) pa_nil)))) (pw_and1 (pt_not (pt_val (pe_callB call_isi (by rfl) T.isinstance (by decide +kernel) (pa_cons (pv 0) (pa_cons (pe_bltn (v := .ty "tuple") (by rfl) T.tuple (by decide +kernel) rfl) pa_nil))))))))
      (pss_one (ps_ret pe_bl))
      pss_nil)
      (pss_cons (ps_if (pt_cmpR op_ne (pe_callB call_len_seq (by rfl) T.len PySem.boot_len (pa_cons (pv 0) pa_nil)) (pe_callB call_len_seq (by rfl) T.len PySem.boot_len (pa_cons (pv 1) pa_nil)) (nomark _))
      (pss_one (ps_ret pe_bl))
      pss_nil)
      (pss_cons (ps_for PassesOwn.never rfl (pi_range1 rfl T.range (pa_cons (pe_callB call_len_seq (by rfl) T.len PySem.boot_len (pa_cons (pv 1) pa_nil)) pa_nil)) (pg_name (i := 2) sc.nd rfl (by first | exact Or.inl rfl | exact Or.inr rfl))
      (pss_one (ps_if (pt_not (pt_val (pe_call G__law_same (hr.mono (by first | decide | omega)) rfl T._law_same.mg T._law_same.kp T._law_same.b .nil pass0 (pa_cons (pe_ix ix_seq (pv 0) (pv 2) (fun _ _ => rfl)) (pa_cons (pe_ix ix_seq (pv 1) (pv 2) (fun _ _ => rfl)) pa_nil)))))
      (pss_one (ps_ret pe_bl))
      pss_nil)))
      (pss_one (ps_ret pe_bl))))))))))), ?_⟩
      rcases he.ways with ⟨rfl, fx⟩ | ⟨m, hm, p, q, xs, ys, rfl, rfl, hpq, hl, hs, hx⟩
      · cases x with
        | non =>
          walk_at "go3"
          exact k
        | bl b =>
          walk_at "go3"
          rw [decide_eq_true rfl]
          exact k
        | int i =>
          walk_at "go3"
          refine ⟨_, rfl, .int i, ?_⟩
          walk_at "go3"
          rw [decide_eq_true rfl]
          exact k
        | str z =>
          walk_at "go3"
          rw [decide_eq_true rfl]
          exact k
        | _ => cases fx
      · have hl2 : (V.int (xs.length : Int)) = V.int (ys.length : Int) := by rw [hl]
        have at_ : ∀ {zs : List V} {i : Nat}, i < zs.length → ∃ v, zs[i]? = some v := fun {zs i} h => ⟨zs[i], List.getElem?_eq_getElem h⟩
        have fin : tSeq (tFor (iRng1 (tCons (tCB (fun xs H_1 Q => ∃ p ys, xs = [V.ref p] ∧ (SqL K H_1 p ys ∨ SqT K H_1 p ys) ∧ Q (V.int ys.length) H_1) (tCons (tVar 1) tNil)) tNil)) (gName 2)
            (tIfS (tNot (tB (tCall sp [] E0 (tCons (tOp (rIx K) (tVar 0) (tVar 2)) (tCons (tOp (rIx K) (tVar 1) (tVar 2)) tNil))))) (tRet (tC (V.bl false))) tNext)) (tRet (tC (V.bl true)))
            { nx := fun _ H' => Q .non H', rt := Q } (L2.start ["_law_told", "_law_due", "_law_k"] [.ref p, .ref q]) H := by
          have sq : SqL K H q ys ∨ SqT K H q ys := by
            rcases hpq with ⟨_, hq⟩ | ⟨_, hq⟩
            · exact .inr (SqT.of hq)
            · exact .inl (SqL.of hq)
          refine ⟨_, rfl, q, ys, rfl, sq, (ys.length : Int), rfl, by omega, by omega, for_range (n := ys.length) (fun _ σ H' => H' = H ∧ ∃ v, σ = [some (.ref p), some (.ref q), v]) ⟨rfl, none, rfl⟩ ?_ ?_⟩
          · rintro i σ H1 hi ⟨rfl, v, rfl⟩
            obtain ⟨y, hy⟩ := at_ hi
            obtain ⟨x, hx'⟩ := at_ (zs := xs) (i := i) (by omega)
            have go2 : ∀ (R : VK), (∀ v, v = x → R v H1) → rIx K (.ref p) (.int (0 + (i : Int))) H1 R := fun R k => by
              rw [Int.zero_add]
              rcases hpq with ⟨hp, _⟩ | ⟨hp, _⟩
              · exact .inr (.inl ⟨p, xs, i, x, rfl, rfl, SqT.of hp, atI_nat hx', k x rfl⟩)
              · exact .inl ⟨p, xs, i, x, rfl, rfl, SqL.of hp, atI_nat hx', k x rfl⟩
            have go4 : ∀ (R : VK), (∀ v, v = y → R v H1) → rIx K (.ref q) (.int (0 + (i : Int))) H1 R := fun R k => by
              rw [Int.zero_add]
              rcases hpq with ⟨_, hq⟩ | ⟨_, hq⟩
              · exact .inr (.inl ⟨q, ys, i, y, rfl, rfl, SqT.of hq, atI_nat hy, k y rfl⟩)
              · exact .inl ⟨q, ys, i, y, rfl, rfl, SqL.of hq, atI_nat hy, k y rfl⟩
            refine ⟨_, rfl, _, rfl, go2 _ fun x' ex => ⟨_, rfl, _, rfl, go4 _ fun y' ey => ?_⟩⟩
            subst ex
            subst ey
            refine hsp m hm _ _ _ _ ⟨_, _, rfl, hx i _ _ hx' hy, true, rfl, ?_⟩
            refine i_no rfl ?_
            exact ⟨rfl, _, rfl⟩
          · rintro σ H1 ⟨rfl, v, rfl⟩
            exact k
        rcases hpq with ⟨hp, hq⟩ | ⟨hp, hq⟩
        · walk_at "go3"
          refine i_no (by rw [decide_eq_true hl2]; rfl) ?_
          exact fin
        · walk_at "go3"
          refine i_no (by rw [decide_eq_true hl2]; rfl) ?_
          exact fin
theorem ok_same (T : Txt P K mg a) : ∀ n, FnOk P w K mg base CX0 (n + 2) a._law_same.f a._law_same.fd ["_law_told", "_law_due"] (spSame n)
  | 0 => same_step T 0 (sp := fun _ _ _ _ => False) ⟨fun _ _ _ _ h => h.elim, fun _ _ _ _ _ _ _ _ _ _ _ _ _ h => h.elim⟩ fun _ h => by omega
  | n + 1 => same_step T (n + 1) (ok_same T n) fun m h vs H Q E q => by
    have e : m = n := by omega
    subst e
    exact q
end
end Me
set_option maxHeartbeats 4000000
namespace Me
open PySem L2


section
variable {P : Program} {w : World} {K : PySem.W.Frag} {mg : Str → Option Value} {base : Heap} {a : Ad}
theorem Fld.went {p : Addr} {H H' : Hp} {v : V} (h : Fld p H v) (w : ∀ b o, b ≠ p → H b = some o → H' b = some o) : Fld p H' v := by
  cases h with
  | int i => exact .int i
  | str z => exact .str z
  | non => exact .non
  | tup n h => exact .tup n (w _ _ n h)
theorem Fld.eqv {p : Addr} {H : Hp} {v : V} (h : Fld p H v) : Eqv H 1 v v := by
  cases h with
  | int i => exact .inl ⟨rfl, rfl⟩
  | str z => exact .inl ⟨rfl, rfl⟩
  | non => exact .inl ⟨rfl, rfl⟩
  | tup n h =>
    refine .inr ⟨_, _, _, _, rfl, rfl, .inl ⟨h, h⟩, rfl, (by show 2 ≤ 1000; decide), fun i x y e1 e2 => ?_⟩
    rw [e1] at e2
    cases e2
    match i, e1 with
    | 0, e => cases e; exact ⟨rfl, rfl⟩
    | 1, e => cases e; exact ⟨rfl, rfl⟩
    | k + 2, e => cases e
theorem outs_of {i : Nat} (hi : i < 24) (y z : V) : (i ∈ [4, 5, 20] → outs i y z = [y, z]) ∧ (i ∈ [6, 7, 12, 15, 17, 18, 22] → outs i y z = []) ∧ (i ∉ [4, 5, 20] → i ∉ [6, 7, 12, 15, 17, 18, 22] → outs i y z = [y]) := by
  have key : ∀ i : Nat, i < 24 → (i ∈ [4, 5, 20] → (fsOf i).length = 2) ∧ (i ∈ [6, 7, 12, 15, 17, 18, 22] → (fsOf i).length = 0) ∧ (i ∉ [4, 5, 20] → i ∉ [6, 7, 12, 15, 17, 18, 22] → (fsOf i).length = 1) := by decide
  obtain ⟨k1, k2, k3⟩ := key i hi
  refine ⟨fun h => ?_, fun h => ?_, fun h h' => ?_⟩
  · have e := k1 h
    unfold outs
    cases q : fsOf i with
    | nil => rw [q] at e; cases e
    | cons f r => cases r with
      | nil => rw [q] at e; cases e
      | cons g r2 => rfl
  · have e := k2 h
    unfold outs
    cases q : fsOf i with
    | nil => rfl
    | cons f r => rw [q] at e; cases e
  · have e := k3 h h'
    unfold outs
    cases q : fsOf i with
    | nil => rw [q] at e; cases e
    | cons f r => cases r with
      | nil => rfl
      | cons g r2 => rw [q] at e; cases e
def spLaw (K : PySem.W.Frag) : Sp := fun vs H Q _ => ∃ (s : Addr) (ns : List Int), vs = [.ref s] ∧ SqL K H s (ns.map V.int) ∧ ns.length ≤ 63 ∧ ∀ H', Q (.bl true) H'
theorem ok_law (T : Txt P K mg a) : FnOk P w K mg base CX0 7 a.law.f a.law.fd ["_law_script"] (spLaw K) := by
  have G__law_start : FnOk P w K mg base CX0 1 a._law_start.f a._law_start.fd ["_law_script"] (spStart K) := ok_start T
  have G__law_field : FnOk P w K mg base CX0 3 a._law_field.f a._law_field.fd ["_law_state"] spField := ok_field T
  have G__law_caught : FnOk P w K mg base CX0 6 a._law_caught.f a._law_caught.fd ["_law_which", "_law_one", "_law_other"] (spCaught a.C) := ok_caught T
  have G__law_same : FnOk P w K mg base CX0 5 a._law_same.f a._law_same.fd ["_law_told", "_law_due"] (spSame 3) := ok_same T 3
  have sc : FnScope ["_law_script", "_law_state", "_law_which", "_law_one", "_law_other", "_law_due", "_law_caught_here", "_law_k"] ["_law_script"] (defScope (top 39)) := ⟨rfl, rfl, rfl, by decide +kernel, rfl, by decide +kernel, by decide +kernel⟩
  refine T.law.ok sc (fun vs H Q E h => ?_) (fun cdv A outer s H vs Q E hr h => ?_)
  · obtain ⟨p, _, rfl, _⟩ := h
    rfl
  · obtain ⟨sa, ns, rfl, hS, hn, k⟩ := h
    refine ⟨_, (pss_cons (ps_set (i := 1) sc.nd rfl (by first | exact Or.inl rfl | exact Or.inr rfl) (pe_call G__law_start (hr.mono (by first | decide | omega)) rfl T._law_start.mg T._law_start.kp T._law_start.b .nil pass0 (pa_cons (pv 0) pa_nil)))
      (pss_cons (ps_for PassesOwn.never rfl (pi_range1 rfl T.range (pa_cons pe_int pa_nil)) (pg_name (i := 2) sc.nd rfl (by first | exact Or.inl rfl | exact Or.inr rfl))
      (pss_cons (ps_set (i := 3) sc.nd rfl (by first | exact Or.inl rfl | exact Or.inr rfl) (pe_call G__law_field (hr.mono (by first | decide | omega)) rfl T._law_field.mg T._law_field.kp T._law_field.b .nil pass0 (pa_cons (pv 1) pa_nil)))
      (pss_cons (ps_set (i := 4) sc.nd rfl (by first | exact Or.inl rfl | exact Or.inr rfl) (pe_call G__law_field (hr.mono (by first | decide | omega)) rfl T._law_field.mg T._law_field.kp T._law_field.b .nil pass0 (pa_cons (pv 1) pa_nil)))
      (pss_cons (ps_set (i := 5) sc.nd rfl (by first | exact Or.inl rfl | exact Or.inr rfl) (pe_tup (pa_cons (pv 3) pa_nil)))
      (pss_cons (ps_if (pt_cmpR op_in_seq (pv 2) (pe_lst (pa_cons pe_int (pa_cons pe_int (pa_cons pe_int pa_nil)))) (by rfl))
      (pss_one (ps_set (i := 5) sc.nd rfl (by first | exact Or.inl rfl | exact Or.inr rfl) (pe_tup (pa_cons (pv 3) (pa_cons (pv 4) pa_nil)))))
      pss_nil)
      (pss_cons (ps_if (pt_cmpR op_in_seq (pv 2) (pe_lst (pa_cons pe_int (pa_cons pe_int (pa_cons pe_int (pa_cons pe_int (pa_cons pe_int (pa_cons pe_int (pa_cons pe_int pa_nil)))))))) (by rfl))
      (pss_one (ps_set (i := 5) sc.nd rfl (by first | exact Or.inl rfl | exact Or.inr rfl) (pe_tup pa_nil)))
      pss_nil)
      (pss_cons (ps_set (i := 6) sc.nd rfl (by first | exact Or.inl rfl | exact Or.inr rfl) (pe_call G__law_caught (hr.mono (by first | decide | omega)) rfl T._law_caught.mg T._law_caught.kp T._law_caught.b .nil pass0 (pa_cons (pv 2) (pa_cons (pv 3) (pa_cons (pv 4) pa_nil)))))
      (pss_one (ps_if (pt_not (pt_val (pe_call G__law_same (hr.mono (by first | decide | omega)) rfl T._law_same.mg T._law_same.kp T._law_same.b .nil pass0 (pa_cons (pv 6) (pa_cons (pe_tup (pa_cons pe_bl (pa_cons (pe_lc (own := [("_law_k", 7)]) (g := gName 7) (by rfl) sc.nd (pi_range1 rfl T.range (pa_cons pe_int pa_nil)) (blkOk_by (own := [("_law_k", 7)]) (N := ["_law_script", "_law_state", "_law_which", "_law_one", "_law_other", "_law_due", "_law_caught_here", "_law_k"]) (sc := defScope (top 39)) (by decide +kernel)) (fun _ _ _ _ _ => pg_name (i := 7) sc.nd rfl (Or.inl rfl)) (fun _ _ _ _ _ => pts_nil) (fun _ _ _ _ _ => (pe_cmpR op_eq (pv 7) (pv 2) (nomark _)))) (pa_cons (pv 5) pa_nil)))) pa_nil)))))
      (pss_one (ps_ret pe_bl))
      pss_nil)))))))))
      (pss_one (ps_ret pe_bl)))), ?_⟩
    walk_at "go"
    refine ⟨sa, ns, rfl, hS, hn, fun p H1 np S1 _ => ?_⟩
    walk_at "go"
    refine ⟨24, rfl, by decide, by decide, for_range (n := 24) (fun i σ H2 => StOk H2 p ∧ ∃ v1 v2 v3 v4 v5 v6, σ = [some (.ref sa), some (.ref p), v1, v2, v3, v4, v5, v6]) ⟨S1, _, _, _, _, _, _, rfl⟩ ?_ ?_⟩
    · rintro i σ H2 hi ⟨S2, v1, v2, v3, v4, v5, v6, rfl⟩
      rw [Int.zero_add]
      walk_at "go"
      refine ⟨p, rfl, S2, fun y H3 fy0 W3 => ?_⟩
      walk_at "go"
      refine ⟨p, rfl, W3.1, fun z H4 fz0 W4 => ?_⟩
      have fy4 := fy0.went W4.2.1
      have S4 := W4.1
      obtain ⟨oA, oB, oC⟩ := outs_of hi y z
      have ol : (outs i y z).length ≤ 1000 := by
        by_cases h1 : i ∈ [4, 5, 20]
        · rw [oA h1]; show 2 ≤ 1000; decide
        · by_cases h2 : i ∈ [6, 7, 12, 15, 17, 18, 22]
          · rw [oB h2]; show 0 ≤ 1000; decide
          · rw [oC h1 h2]; show 1 ≤ 1000; decide
      have om : ∀ x ∈ outs i y z, x = y ∨ x = z := fun x hx => by
        by_cases h1 : i ∈ [4, 5, 20]
        · rw [oA h1] at hx; simpa using hx
        · by_cases h2 : i ∈ [6, 7, 12, 15, 17, 18, 22]
          · rw [oB h2] at hx; cases hx
          · rw [oC h1 h2] at hx; exact .inl (by simpa using hx)
      walk_at "go"
      rename_i t1 n1 t3 n3
      refine i_in (xs := [4, 5, 20]) upd_same ?_
      walk_at "go"
      refine i_itd (fun e => ?_) (fun e => ?_)
      · have h1 : i ∈ [4, 5, 20] := by simp at e ⊢; omega
        walk_at "go"
        rename_i t nt t5 n5
        refine i_in (xs := [6, 7, 12, 15, 17, 18, 22]) upd_same ?_
        walk_at "go"
        refine i_itd (fun e2 => ?_) (fun e2 => ?_)
        · exfalso; simp at e e2; omega
        · have sm : Same H4 (upd (upd (upd (upd H4 t1 (HO.tup [y])) t3 (HO.lst [V.int 4, V.int 5, V.int 20])) t (HO.tup [y, z])) t5 (HO.lst [V.int 6, V.int 7, V.int 12, V.int 15, V.int 17, V.int 18, V.int 22])) := same_new (same_new (same_new (same_new (fun _ _ e => e) n1) n3) nt) n5
          have hdue : (upd (upd (upd (upd H4 t1 (HO.tup [y])) t3 (HO.lst [V.int 4, V.int 5, V.int 20])) t (HO.tup [y, z])) t5 (HO.lst [V.int 6, V.int 7, V.int 12, V.int 15, V.int 17, V.int 18, V.int 22])) t = some (.tup (outs i y z)) := by
            rw [oA h1, upd_ne (ne_of_none upd_same n5), upd_same]
          have S5 := S4.keep sm
          have fy1 := fy4.went fun b o _ e => sm _ _ e
          have fz1 := fz0.went fun b o _ e => sm _ _ e
          walk_at "go"
          refine ⟨i, y, z, rfl, hi, fun q l t2 H6 hq hl ht s6 => ?_⟩
          walk_at "go"
          refine ⟨24, rfl, by decide, by decide, fun D nD => ?_⟩
          refine lc_range (lo := 0) (n := 24) (fun m H7 => H7 = upd H6 D (.lst ((List.range m).map fun j => V.bl (decide (i = j))))) rfl ?_ ?_
          · rintro m H7 hm rfl
            refine ⟨rfl, ?_⟩
            dsimp only [tYes]
            rw [if_pos rfl]
            refine ⟨_, rfl, _, rfl, rfl, _, upd_same, by rw [List.length_map, List.length_range]; show m < 16777216; omega, ?_⟩
            rw [upd_upd, List.range_succ, List.map_append]
            have e : decide (V.int (0 + (m : Int)) = V.int (i : Int)) = decide (i = m) := by
              by_cases h : i = m
              · rw [decide_eq_true h, decide_eq_true (by rw [h, Int.zero_add])]
              · rw [decide_eq_false h, decide_eq_false (fun z => h (by have := V.int.inj z; omega))]
            rw [e]
            rfl
          · rintro H7 rfl
            walk_at "go"
            rename_i r nr
            have hd6 := s6 _ _ hdue
            have cr : ∀ b o, H6 b = some o → upd (upd H6 D (.lst ((List.range 24).map fun j => V.bl (decide (i = j))))) r (.tup [.bl true, .ref D, .ref t]) b = some o := fun b o e => by
              have e2 : upd H6 D (.lst ((List.range 24).map fun j => V.bl (decide (i = j)))) b = some o := by rw [upd_ne (ne_of_none e nD)]; exact e
              rw [upd_ne (ne_of_none e2 nr)]; exact e2
            have fy := (fy1.went fun b o _ e => cr _ _ (s6 _ _ e)).eqv
            have fz := (fz1.went fun b o _ e => cr _ _ (s6 _ _ e)).eqv
            refine ⟨_, _, rfl, .inr ⟨q, r, _, _, rfl, rfl, .inl ⟨cr _ _ hq, upd_same⟩, rfl, (by show 3 ≤ 1000; decide), fun j x1 x2 e1 e2 => ?_⟩, true, rfl, i_no rfl ?_⟩
            · match j, e1, e2 with
              | 0, e1, e2 => cases e1; cases e2; exact .inl ⟨rfl, rfl⟩
              | 1, e1, e2 =>
                cases e1; cases e2
                refine .inr ⟨l, D, _, _, rfl, rfl, .inr ⟨cr _ _ hl, ?_⟩, rfl, (by show 24 ≤ 1000; decide), fun j x1 x2 e1 e2 => ?_⟩
                · rw [upd_ne (ne_of_none upd_same nr), upd_same]; rfl
                · rw [e1] at e2
                  cases e2
                  refine .inl ⟨rfl, ?_⟩
                  have mem := List.mem_of_getElem? e1
                  obtain ⟨_, _, rfl⟩ := List.mem_map.mp mem
                  rfl
              | 2, e1, e2 =>
                cases e1; cases e2
                refine .inr ⟨t2, t, _, _, rfl, rfl, .inl ⟨cr _ _ ht, cr _ _ hd6⟩, rfl, ol, fun j x1 x2 e1 e2 => ?_⟩
                rw [e1] at e2
                cases e2
                have mem := List.mem_of_getElem? e1
                rcases om _ mem with e | e
                · rw [e]; exact fy
                · rw [e]; exact fz
              | k + 3, e1, e2 => cases e1
            · refine ⟨?_, _, _, _, _, _, _, rfl⟩
              exact S5.keep fun b o e => cr _ _ (s6 _ _ e)
      · have h1 : i ∉ [4, 5, 20] := by simp at e ⊢; omega
        walk_at "go"
        rename_i t5 n5
        refine i_in (xs := [6, 7, 12, 15, 17, 18, 22]) upd_same ?_
        walk_at "go"
        refine i_itd (fun e2 => ?_) (fun e2 => ?_)
        · have h2 : i ∈ [6, 7, 12, 15, 17, 18, 22] := by simp at e2 ⊢; omega
          walk_at "go"
          rename_i t nt
          have sm : Same H4 (upd (upd (upd (upd H4 t1 (HO.tup [y])) t3 (HO.lst [V.int 4, V.int 5, V.int 20])) t5 (HO.lst [V.int 6, V.int 7, V.int 12, V.int 15, V.int 17, V.int 18, V.int 22])) t (HO.tup [])) := same_new (same_new (same_new (same_new (fun _ _ e => e) n1) n3) n5) nt
          have hdue : (upd (upd (upd (upd H4 t1 (HO.tup [y])) t3 (HO.lst [V.int 4, V.int 5, V.int 20])) t5 (HO.lst [V.int 6, V.int 7, V.int 12, V.int 15, V.int 17, V.int 18, V.int 22])) t (HO.tup [])) t = some (.tup (outs i y z)) := by
            rw [oB h2, upd_same]
          have S5 := S4.keep sm
          have fy1 := fy4.went fun b o _ e => sm _ _ e
          have fz1 := fz0.went fun b o _ e => sm _ _ e
          walk_at "go"
          refine ⟨i, y, z, rfl, hi, fun q l t2 H6 hq hl ht s6 => ?_⟩
          walk_at "go"
          refine ⟨24, rfl, by decide, by decide, fun D nD => ?_⟩
          refine lc_range (lo := 0) (n := 24) (fun m H7 => H7 = upd H6 D (.lst ((List.range m).map fun j => V.bl (decide (i = j))))) rfl ?_ ?_
          · rintro m H7 hm rfl
            refine ⟨rfl, ?_⟩
            dsimp only [tYes]
            rw [if_pos rfl]
            refine ⟨_, rfl, _, rfl, rfl, _, upd_same, by rw [List.length_map, List.length_range]; show m < 16777216; omega, ?_⟩
            rw [upd_upd, List.range_succ, List.map_append]
            have e : decide (V.int (0 + (m : Int)) = V.int (i : Int)) = decide (i = m) := by
              by_cases h : i = m
              · rw [decide_eq_true h, decide_eq_true (by rw [h, Int.zero_add])]
              · rw [decide_eq_false h, decide_eq_false (fun z => h (by have := V.int.inj z; omega))]
            rw [e]
            rfl
          · rintro H7 rfl
            walk_at "go"
            rename_i r nr
            have hd6 := s6 _ _ hdue
            have cr : ∀ b o, H6 b = some o → upd (upd H6 D (.lst ((List.range 24).map fun j => V.bl (decide (i = j))))) r (.tup [.bl true, .ref D, .ref t]) b = some o := fun b o e => by
              have e2 : upd H6 D (.lst ((List.range 24).map fun j => V.bl (decide (i = j)))) b = some o := by rw [upd_ne (ne_of_none e nD)]; exact e
              rw [upd_ne (ne_of_none e2 nr)]; exact e2
            have fy := (fy1.went fun b o _ e => cr _ _ (s6 _ _ e)).eqv
            have fz := (fz1.went fun b o _ e => cr _ _ (s6 _ _ e)).eqv
            refine ⟨_, _, rfl, .inr ⟨q, r, _, _, rfl, rfl, .inl ⟨cr _ _ hq, upd_same⟩, rfl, (by show 3 ≤ 1000; decide), fun j x1 x2 e1 e2 => ?_⟩, true, rfl, i_no rfl ?_⟩
            · match j, e1, e2 with
              | 0, e1, e2 => cases e1; cases e2; exact .inl ⟨rfl, rfl⟩
              | 1, e1, e2 =>
                cases e1; cases e2
                refine .inr ⟨l, D, _, _, rfl, rfl, .inr ⟨cr _ _ hl, ?_⟩, rfl, (by show 24 ≤ 1000; decide), fun j x1 x2 e1 e2 => ?_⟩
                · rw [upd_ne (ne_of_none upd_same nr), upd_same]; rfl
                · rw [e1] at e2
                  cases e2
                  refine .inl ⟨rfl, ?_⟩
                  have mem := List.mem_of_getElem? e1
                  obtain ⟨_, _, rfl⟩ := List.mem_map.mp mem
                  rfl
              | 2, e1, e2 =>
                cases e1; cases e2
                refine .inr ⟨t2, t, _, _, rfl, rfl, .inl ⟨cr _ _ ht, cr _ _ hd6⟩, rfl, ol, fun j x1 x2 e1 e2 => ?_⟩
                rw [e1] at e2
                cases e2
                have mem := List.mem_of_getElem? e1
                rcases om _ mem with e | e
                · rw [e]; exact fy
                · rw [e]; exact fz
              | k + 3, e1, e2 => cases e1
            · refine ⟨?_, _, _, _, _, _, _, rfl⟩
              exact S5.keep fun b o e => cr _ _ (s6 _ _ e)
        · have h2 : i ∉ [6, 7, 12, 15, 17, 18, 22] := by simp at e2 ⊢; omega
          have sm : Same H4 (upd (upd (upd H4 t1 (HO.tup [y])) t3 (HO.lst [V.int 4, V.int 5, V.int 20])) t5 (HO.lst [V.int 6, V.int 7, V.int 12, V.int 15, V.int 17, V.int 18, V.int 22])) := same_new (same_new (same_new (fun _ _ e => e) n1) n3) n5
          obtain ⟨t, et⟩ : ∃ t, t = t1 := ⟨t1, rfl⟩
          subst et
          have hdue : (upd (upd (upd H4 t (HO.tup [y])) t3 (HO.lst [V.int 4, V.int 5, V.int 20])) t5 (HO.lst [V.int 6, V.int 7, V.int 12, V.int 15, V.int 17, V.int 18, V.int 22])) t = some (.tup (outs i y z)) := by
            have q1 : (upd (upd H4 t (HO.tup [y])) t3 (HO.lst [V.int 4, V.int 5, V.int 20])) t = some (HO.tup [y]) := by rw [upd_ne (ne_of_none upd_same n3), upd_same]
            rw [oC h1 h2, upd_ne (ne_of_none q1 n5), q1]
          have S5 := S4.keep sm
          have fy1 := fy4.went fun b o _ e => sm _ _ e
          have fz1 := fz0.went fun b o _ e => sm _ _ e
          walk_at "go"
          refine ⟨i, y, z, rfl, hi, fun q l t2 H6 hq hl ht s6 => ?_⟩
          walk_at "go"
          refine ⟨24, rfl, by decide, by decide, fun D nD => ?_⟩
          refine lc_range (lo := 0) (n := 24) (fun m H7 => H7 = upd H6 D (.lst ((List.range m).map fun j => V.bl (decide (i = j))))) rfl ?_ ?_
          · rintro m H7 hm rfl
            refine ⟨rfl, ?_⟩
            dsimp only [tYes]
            rw [if_pos rfl]
            refine ⟨_, rfl, _, rfl, rfl, _, upd_same, by rw [List.length_map, List.length_range]; show m < 16777216; omega, ?_⟩
            rw [upd_upd, List.range_succ, List.map_append]
            have e : decide (V.int (0 + (m : Int)) = V.int (i : Int)) = decide (i = m) := by
              by_cases h : i = m
              · rw [decide_eq_true h, decide_eq_true (by rw [h, Int.zero_add])]
              · rw [decide_eq_false h, decide_eq_false (fun z => h (by have := V.int.inj z; omega))]
            rw [e]
            rfl
          · rintro H7 rfl
            walk_at "go"
            rename_i r nr
            have hd6 := s6 _ _ hdue
            have cr : ∀ b o, H6 b = some o → upd (upd H6 D (.lst ((List.range 24).map fun j => V.bl (decide (i = j))))) r (.tup [.bl true, .ref D, .ref t]) b = some o := fun b o e => by
              have e2 : upd H6 D (.lst ((List.range 24).map fun j => V.bl (decide (i = j)))) b = some o := by rw [upd_ne (ne_of_none e nD)]; exact e
              rw [upd_ne (ne_of_none e2 nr)]; exact e2
            have fy := (fy1.went fun b o _ e => cr _ _ (s6 _ _ e)).eqv
            have fz := (fz1.went fun b o _ e => cr _ _ (s6 _ _ e)).eqv
            refine ⟨_, _, rfl, .inr ⟨q, r, _, _, rfl, rfl, .inl ⟨cr _ _ hq, upd_same⟩, rfl, (by show 3 ≤ 1000; decide), fun j x1 x2 e1 e2 => ?_⟩, true, rfl, i_no rfl ?_⟩
            · match j, e1, e2 with
              | 0, e1, e2 => cases e1; cases e2; exact .inl ⟨rfl, rfl⟩
              | 1, e1, e2 =>
                cases e1; cases e2
                refine .inr ⟨l, D, _, _, rfl, rfl, .inr ⟨cr _ _ hl, ?_⟩, rfl, (by show 24 ≤ 1000; decide), fun j x1 x2 e1 e2 => ?_⟩
                · rw [upd_ne (ne_of_none upd_same nr), upd_same]; rfl
                · rw [e1] at e2
                  cases e2
                  refine .inl ⟨rfl, ?_⟩
                  have mem := List.mem_of_getElem? e1
                  obtain ⟨_, _, rfl⟩ := List.mem_map.mp mem
                  rfl
              | 2, e1, e2 =>
                cases e1; cases e2
                refine .inr ⟨t2, t, _, _, rfl, rfl, .inl ⟨cr _ _ ht, cr _ _ hd6⟩, rfl, ol, fun j x1 x2 e1 e2 => ?_⟩
                rw [e1] at e2
                cases e2
                have mem := List.mem_of_getElem? e1
                rcases om _ mem with e | e
                · rw [e]; exact fy
                · rw [e]; exact fz
              | k + 3, e1, e2 => cases e1
            · refine ⟨?_, _, _, _, _, _, _, rfl⟩
              exact S5.keep fun b o e => cr _ _ (s6 _ _ e)
    · rintro σ H2 ⟨_, v1, v2, v3, v4, v5, v6, rfl⟩
      walk_at "go"
      exact k _
end
end Me
set_option maxHeartbeats 4000000
namespace Me
open PySem L2
abbrev PP : Program := PySem.Challenge.rw_roomleft_k01_errors_and_their_fields.prog
/-! ### from the head's facts -/
theorem eqB_ok {a b : Option Bool} (h : eqB a b = true) : a = b := of_decide_eq_true h
theorem oexB_ok {K : PySem.W.Frag} {C : Addr} (h : oexB K C = true) : ∃ nm q N bs bm sn sub ab col dd k0 k1 k2 k3 k5, K.lookup C = some (excClassObj nm q C N bs bm true sn sub ab col dd k0 k1 k2 k3 k5 "ValueError.__new__") ∧ PySem.HandSPX.refsVE bm = true := by
  unfold oexB at h
  split at h
  · rename_i dd cd sl lk
    split at h
    · rename_i C' bm k0 k1 k2 k3 n k5 em es
      simp only [Bool.and_eq_true, beq_iff_eq, Bool.not_eq_true'] at h
      obtain ⟨rfl, rfl, nd, hd, ht⟩ := h
      obtain ⟨nm, bs, mro, ns, qn, hdc, sn, sub, ab, col, del⟩ := cd
      dsimp only at em nd hd
      subst em nd hd
      have esl : sl = #[k0, k1, k2, k3, some (.builtin "ValueError.__new__"), k5] := by
        obtain ⟨l⟩ := sl
        exact congrArg Array.mk es
      subst esl
      exact ⟨nm, qn, ns, bs, bm, sn, sub, ab, col, dd, k0, k1, k2, k3, k5, lk, ht⟩
    · cases h
  · cases h
theorem ers_mem {i : Nat} (h : i < 24) : (nmOf i, fsOf i) ∈ ers := by
  have key : ∀ i : Nat, i < 24 → (nmOf i, fsOf i) ∈ ers := by decide +kernel
  exact key i h
theorem nm_inj {i j : Nat} (hi : i < 24) (hj : j < 24) : decide (nmOf i = nmOf j) = decide (i = j) := by
  have key : ∀ i : Nat, i < 24 → ∀ j : Nat, j < 24 → decide (nmOf i = nmOf j) = decide (i = j) := by decide +kernel
  exact key i hi j hj
theorem all_and {l : List Bool} (h : l.all id = true) : ∀ b ∈ l, b = true := fun b hb => List.all_eq_true.mp h b hb
section
variable {K : PySem.W.Frag} {mg : Str → Option Value} {h : Heap}
/-- an __init__ with a closure, as the heap has it -/
theorem sup_fn {i : Nat} (e : fnS K (nmOf i, some "__init__") = valS i) (b : supB K (nmOf i) (nmOf i ++ ".__init__") = true) :
    ∃ (oc : Value) (od : Option Addr) (osl : Array (Option Value)) (kV doc pm ct : Value) (an : Option Addr) (cda cc : Addr),
      K.lookup (He.ma K (He.ga K (nmOf i)) "__init__") = some ⟨oc, od, .func (PySem.W.ksFn "__init__" (nmOf i ++ ".__init__") (defArgs (iniOf i)) (defBody (iniOf i)) (defScope (iniOf i)) .none kV doc pm an (.ref cda) ct cc), osl⟩ ∧
      PySem.W.codeIn K (.ref cda) (nmOf i ++ ".__init__") = true ∧ (∃ cl cld csl, K.lookup cc = some ⟨cl, cld, .cell (some (.ref (He.ga K (nmOf i)))), csl⟩) ∧
      ∃ (ccl : Value) (cdd : Option Addr) (vs : Array Value) (ccs : Array (Option Value)) (file : Str) (tf : Tok), K.lookup cda = some ⟨ccl, cdd, .fields vs, ccs⟩ ∧ vs[2]? = some (.str file tf) ∧ ((PP.main.file : Str) == file) = true := by
  have ea : He.fAd K (nmOf i, some ("__init__" : Str)) = He.ma K (He.ga K (nmOf i)) "__init__" := rfl
  unfold fnS at e
  rw [ea] at e
  unfold supB at b
  cases lk : K.lookup (He.ma K (He.ga K (nmOf i)) "__init__") with
  | none => rw [lk] at e; cases e
  | some o =>
    obtain ⟨oc, od, dt, osl⟩ := o
    simp only [lk] at e b
    cases dt with
    | func fd =>
      obtain ⟨n1, n2, n3, n4, n5, n6, n7, n8, n9, n10, n11, n12, n13, n14, n15⟩ := fd
      dsimp only at e b
      unfold valS at e
      simp only [Option.some.injEq, Prod.mk.injEq] at e
      obtain ⟨h1, h2, h3, h4, h5, h6, h7⟩ := e
      subst h1 h2 h3 h4 h5 h6 h7
      obtain ⟨b1, b2⟩ := Bool.and_eq_true_iff.mp b
      obtain ⟨b3, b4⟩ := Bool.and_eq_true_iff.mp b2
      have e8 := of_decide_eq_true b3
      subst e8
      split at b4
      · rename_i n cc
        obtain ⟨b5, b6⟩ := Bool.and_eq_true_iff.mp b4
        have e9 := of_decide_eq_true b5
        subst e9
        split at b6
        · rename_i cl cld D csl lcc
          obtain ⟨b7, b8⟩ := Bool.and_eq_true_iff.mp b6
          have e10 := beq_iff_eq.mp b7
          subst e10
          split at b8
          · rename_i c
            split at b8
            · rename_i ccl cdd vs ccs lc
              split at b8
              · rename_i x1 x2 f tf rest ev
                refine ⟨oc, od, osl, n9, n10, n11, n14, n12, c, cc, rfl, b1, ⟨cl, cld, csl, lcc⟩, ccl, cdd, vs, ccs, f, tf, lc, ?_, b8⟩
                rw [← Array.getElem?_toList, ev]
                rfl
              · cases b8
            · cases b8
          · cases b8
        · cases b6
      · cases b4
    | _ => cases e
end
end Me
set_option maxHeartbeats 4000000
namespace Me
open PySem L2
section
variable {K : PySem.W.Frag} {mg : Str → Option Value} {h : Heap}
theorem inits (c : He.SaysD fa fn K) : ∀ i : Nat, i < 24 → fsOf i ≠ [] → ∃ fd, FunD K "__init__" (nmOf i ++ ".__init__") (defArgs (iniOf i)) (defBody (iniOf i)) (defScope (iniOf i)) [] [] (He.ma K (He.ga K (nmOf i)) "__init__") fd ∧ Binds K fd ("self" :: fsOf i) []
  | 0, _, _ => by
    obtain ⟨fd, F⟩ := c.def_ 13 (d := dI 0) rfl
    exact ⟨fd, F, FunD.bindsN F fun _ _ _ _ _ _ us hl => match us, hl with | [_, _], _ => rfl⟩
  | 1, _, _ => by
    obtain ⟨fd, F⟩ := c.def_ 14 (d := dI 1) rfl
    exact ⟨fd, F, FunD.bindsN F fun _ _ _ _ _ _ us hl => match us, hl with | [_, _], _ => rfl⟩
  | 2, _, _ => by
    obtain ⟨fd, F⟩ := c.def_ 15 (d := dI 2) rfl
    exact ⟨fd, F, FunD.bindsN F fun _ _ _ _ _ _ us hl => match us, hl with | [_, _], _ => rfl⟩
  | 3, _, _ => by
    obtain ⟨fd, F⟩ := c.def_ 16 (d := dI 3) rfl
    exact ⟨fd, F, FunD.bindsN F fun _ _ _ _ _ _ us hl => match us, hl with | [_, _], _ => rfl⟩
  | 4, _, _ => by
    obtain ⟨fd, F⟩ := c.def_ 17 (d := dI 4) rfl
    exact ⟨fd, F, FunD.bindsN F fun _ _ _ _ _ _ us hl => match us, hl with | [_, _, _], _ => rfl⟩
  | 5, _, _ => by
    obtain ⟨fd, F⟩ := c.def_ 18 (d := dI 5) rfl
    exact ⟨fd, F, FunD.bindsN F fun _ _ _ _ _ _ us hl => match us, hl with | [_, _, _], _ => rfl⟩
  | 6, _, h => absurd (by decide) h
  | 7, _, h => absurd (by decide) h
  | 8, _, _ => by
    obtain ⟨fd, F⟩ := c.def_ 19 (d := dI 8) rfl
    exact ⟨fd, F, FunD.bindsN F fun _ _ _ _ _ _ us hl => match us, hl with | [_, _], _ => rfl⟩
  | 9, _, _ => by
    obtain ⟨fd, F⟩ := c.def_ 20 (d := dI 9) rfl
    exact ⟨fd, F, FunD.bindsN F fun _ _ _ _ _ _ us hl => match us, hl with | [_, _], _ => rfl⟩
  | 10, _, _ => by
    obtain ⟨fd, F⟩ := c.def_ 21 (d := dI 10) rfl
    exact ⟨fd, F, FunD.bindsN F fun _ _ _ _ _ _ us hl => match us, hl with | [_, _], _ => rfl⟩
  | 11, _, _ => by
    obtain ⟨fd, F⟩ := c.def_ 22 (d := dI 11) rfl
    exact ⟨fd, F, FunD.bindsN F fun _ _ _ _ _ _ us hl => match us, hl with | [_, _], _ => rfl⟩
  | 12, _, h => absurd (by decide) h
  | 13, _, _ => by
    obtain ⟨fd, F⟩ := c.def_ 23 (d := dI 13) rfl
    exact ⟨fd, F, FunD.bindsN F fun _ _ _ _ _ _ us hl => match us, hl with | [_, _], _ => rfl⟩
  | 14, _, _ => by
    obtain ⟨fd, F⟩ := c.def_ 24 (d := dI 14) rfl
    exact ⟨fd, F, FunD.bindsN F fun _ _ _ _ _ _ us hl => match us, hl with | [_, _], _ => rfl⟩
  | 15, _, h => absurd (by decide) h
  | 16, _, _ => by
    obtain ⟨fd, F⟩ := c.def_ 25 (d := dI 16) rfl
    exact ⟨fd, F, FunD.bindsN F fun _ _ _ _ _ _ us hl => match us, hl with | [_, _], _ => rfl⟩
  | 17, _, h => absurd (by decide) h
  | 18, _, h => absurd (by decide) h
  | 19, _, _ => by
    obtain ⟨fd, F⟩ := c.def_ 26 (d := dI 19) rfl
    exact ⟨fd, F, FunD.bindsN F fun _ _ _ _ _ _ us hl => match us, hl with | [_, _], _ => rfl⟩
  | 20, _, _ => by
    obtain ⟨fd, F⟩ := c.def_ 27 (d := dI 20) rfl
    exact ⟨fd, F, FunD.bindsN F fun _ _ _ _ _ _ us hl => match us, hl with | [_, _, _], _ => rfl⟩
  | 21, _, _ => by
    obtain ⟨fd, F⟩ := c.def_ 28 (d := dI 21) rfl
    exact ⟨fd, F, FunD.bindsN F fun _ _ _ _ _ _ us hl => match us, hl with | [_, _], _ => rfl⟩
  | 22, _, h => absurd (by decide) h
  | 23, _, _ => by
    obtain ⟨fd, F⟩ := c.def_ 29 (d := dI 23) rfl
    exact ⟨fd, F, FunD.bindsN F fun _ _ _ _ _ _ us hl => match us, hl with | [_, _], _ => rfl⟩
  | n + 24, h, _ => by omega
theorem nos_at (c3 : (nos.map fun i => fnS K (nmOf i, some "__init__")) = nos.map valS) (k : Nat) (hk : k < 7) : fnS K (nmOf (nos.getD k 0), some "__init__") = valS (nos.getD k 0) := by
  have e : (nos.map fun i => fnS K (nmOf i, some "__init__"))[k]? = (nos.map valS)[k]? := by rw [c3]
  have q : nos[k]? = some (nos.getD k 0) := by
    have key : ∀ k : Nat, k < 7 → nos[k]? = some (nos.getD k 0) := by decide
    exact key k hk
  rw [List.getElem?_map, List.getElem?_map, q] at e
  exact Option.some.inj e
theorem sups (c3 : (nos.map fun i => fnS K (nmOf i, some "__init__")) = nos.map valS) (hb : ∀ i ∈ nos, supB K (nmOf i) (nmOf i ++ ".__init__") = true) : ∀ i : Nat, i < 24 → fsOf i = [] →
    ∃ (qn : Str) (p0 p1 p2 p3 p4 : Pos) (ap : Pos) (dV kV doc pm ct oc : Value) (an od : Option Addr) (cda cc : Addr) (osl : Array (Option Value)),
    K.lookup (He.ma K (He.ga K (nmOf i)) "__init__") = some ⟨oc, od, .func (PySem.W.ksFn "__init__" qn { posonlyargs := [], args := [{ arg := "self", annotation := none, pos := ap }], vararg := none, kwonlyargs := [], kw_defaults := [], kwarg := none, defaults := [] } [.Expr (.Call (.Attribute (.Call (.Name "super" p0) [] [] p1) "__init__" p2) [] [] p3) p4] scS dV kV doc pm an (.ref cda) ct cc), osl⟩ ∧
    PySem.W.codeIn K (.ref cda) qn = true ∧ dV = .none ∧ (∀ env : Env, ∃ pl : Sem Bool, eval (.Call (.Attribute (.Call (.Name "super" p0) [] [] p1) "__init__" p2) [] [] p3) env = (do
      let ov ← attributeBase (.Call (.Name "super" p0) [] [] p1) "__init__" env (eval (.Call (.Name "super" p0) [] [] p1) env)
      standAt p2.atName
      let (f, first) ← holding [ov] (getMethod ov "__init__" pl)
      callWith p3 f first (backTo p3 (starEach [] env)) [])) ∧
    (∃ cl cld csl, K.lookup cc = some ⟨cl, cld, .cell (some (.ref (He.ga K (nmOf i)))), csl⟩) ∧ ∃ (ccl : Value) (cdd : Option Addr) (vs : Array Value) (ccs : Array (Option Value)) (file : Str) (tf : Tok), K.lookup cda = some ⟨ccl, cdd, .fields vs, ccs⟩ ∧ vs[2]? = some (.str file tf) ∧ ((PP.main.file : Str) == file) = true
  | 0, _, h => absurd h (by decide)
  | 1, _, h => absurd h (by decide)
  | 2, _, h => absurd h (by decide)
  | 3, _, h => absurd h (by decide)
  | 4, _, h => absurd h (by decide)
  | 5, _, h => absurd h (by decide)
  | 6, _, _ => by
    obtain ⟨oc, od, osl, kV, doc, pm, ct, an, cda, cc, h1, h2, h3, h4⟩ := sup_fn (K := K) (i := 6) (nos_at c3 0 (by decide)) (hb 6 (by decide))
    exact ⟨_, _, _, _, _, _, _, _, _, _, _, _, _, _, _, _, _, _, h1, h2, rfl, fun env => ⟨_, rfl⟩, h3, h4⟩
  | 7, _, _ => by
    obtain ⟨oc, od, osl, kV, doc, pm, ct, an, cda, cc, h1, h2, h3, h4⟩ := sup_fn (K := K) (i := 7) (nos_at c3 1 (by decide)) (hb 7 (by decide))
    exact ⟨_, _, _, _, _, _, _, _, _, _, _, _, _, _, _, _, _, _, h1, h2, rfl, fun env => ⟨_, rfl⟩, h3, h4⟩
  | 8, _, h => absurd h (by decide)
  | 9, _, h => absurd h (by decide)
  | 10, _, h => absurd h (by decide)
  | 11, _, h => absurd h (by decide)
  | 12, _, _ => by
    obtain ⟨oc, od, osl, kV, doc, pm, ct, an, cda, cc, h1, h2, h3, h4⟩ := sup_fn (K := K) (i := 12) (nos_at c3 2 (by decide)) (hb 12 (by decide))
    exact ⟨_, _, _, _, _, _, _, _, _, _, _, _, _, _, _, _, _, _, h1, h2, rfl, fun env => ⟨_, rfl⟩, h3, h4⟩
  | 13, _, h => absurd h (by decide)
  | 14, _, h => absurd h (by decide)
  | 15, _, _ => by
    obtain ⟨oc, od, osl, kV, doc, pm, ct, an, cda, cc, h1, h2, h3, h4⟩ := sup_fn (K := K) (i := 15) (nos_at c3 3 (by decide)) (hb 15 (by decide))
    exact ⟨_, _, _, _, _, _, _, _, _, _, _, _, _, _, _, _, _, _, h1, h2, rfl, fun env => ⟨_, rfl⟩, h3, h4⟩
  | 16, _, h => absurd h (by decide)
  | 17, _, _ => by
    obtain ⟨oc, od, osl, kV, doc, pm, ct, an, cda, cc, h1, h2, h3, h4⟩ := sup_fn (K := K) (i := 17) (nos_at c3 4 (by decide)) (hb 17 (by decide))
    exact ⟨_, _, _, _, _, _, _, _, _, _, _, _, _, _, _, _, _, _, h1, h2, rfl, fun env => ⟨_, rfl⟩, h3, h4⟩
  | 18, _, _ => by
    obtain ⟨oc, od, osl, kV, doc, pm, ct, an, cda, cc, h1, h2, h3, h4⟩ := sup_fn (K := K) (i := 18) (nos_at c3 5 (by decide)) (hb 18 (by decide))
    exact ⟨_, _, _, _, _, _, _, _, _, _, _, _, _, _, _, _, _, _, h1, h2, rfl, fun env => ⟨_, rfl⟩, h3, h4⟩
  | 19, _, h => absurd h (by decide)
  | 20, _, h => absurd h (by decide)
  | 21, _, h => absurd h (by decide)
  | 22, _, _ => by
    obtain ⟨oc, od, osl, kV, doc, pm, ct, an, cda, cc, h1, h2, h3, h4⟩ := sup_fn (K := K) (i := 22) (nos_at c3 6 (by decide)) (hb 22 (by decide))
    exact ⟨_, _, _, _, _, _, _, _, _, _, _, _, _, _, _, _, _, _, h1, h2, rfl, fun env => ⟨_, rfl⟩, h3, h4⟩
  | 23, _, h => absurd h (by decide)
  | n + 24, h, _ => by omega
theorem mk_txt (X : K.In h) (G : h.Ns mainGlobals mg) (e : obsK K = valK) : ∃ a : Ad, a.law.f = He.ga K "law" ∧ Txt PP K mg a := by
  have c : He.SaysD fa fn K := congrArg (fun z : AlK => z.1) e
  have c2 : exB K = true := congrArg (fun z : AlK => z.2.1) e
  have c3 : (nos.map fun i => fnS K (nmOf i, some "__init__")) = nos.map valS := congrArg (fun z : AlK => z.2.2) e
  have ex := all_and c2
  unfold exL at ex
  have x1 : ers.all (fun y => erB K y.1 y.2) = true := ex _ (by simp)
  have x2 : nos.all (fun i => supB K (nmOf i) (nmOf i ++ ".__init__") && mroOk K (nmOf i)) = true := ex _ (by simp)
  have x3 : He.eqO (PySem.W.alongIn K "__init__" [.ref (He.ga K "RoomError"), .type "ValueError", .type "Exception", .type "BaseException", .type "object"]) (some (some (.builtin "ValueError.__init__"))) = true := ex _ (by simp)
  have x4 : He.eqO (PySem.W.nsIn K cStatics "thirdparty.any") (some none) = true := ex _ (by simp)
  have x5 : He.eqO (PySem.W.specialIn K (.builtin "object.__class__") "__get__") (some (some (.builtin "getset_descriptor.__get__"))) = true := ex _ (by simp)
  have x6 : eqB (PySem.W.takesIn K (.builtin "object.__class__")) (some true) = true := ex _ (by simp)
  have x7 : He.eqO (PySem.W.nsIn K mainGlobals "RoomError") (some (some (.ref (He.ga K "RoomError")))) = true := ex _ (by simp)
  have y2 := List.all_eq_true.mp x2
  have hI := inits c
  have hS := sups c3 fun i hi => (Bool.and_eq_true_iff.mp (y2 i hi)).1
  obtain ⟨fd0, F0⟩ := c.def_ 0 (d := dG "_law_is_int" 27) rfl
  obtain ⟨fd1, F1⟩ := c.def_ 1 (d := dG "_law_same_dict" 28) rfl
  obtain ⟨fd2, F2⟩ := c.def_ 2 (d := dG "_law_same" 29) rfl
  obtain ⟨fd3, F3⟩ := c.def_ 3 (d := dG "_law_start" 30) rfl
  obtain ⟨fd4, F4⟩ := c.def_ 4 (d := dG "_law_pull" 31) rfl
  obtain ⟨fd5, F5⟩ := c.def_ 5 (d := dG "_law_big" 32) rfl
  obtain ⟨fd6, F6⟩ := c.def_ 6 (d := dG "_law_field" 33) rfl
  obtain ⟨fd7, F7⟩ := c.def_ 7 (d := dG "_law_raise_first" 34) rfl
  obtain ⟨fd8, F8⟩ := c.def_ 8 (d := dG "_law_raise" 35) rfl
  obtain ⟨fd9, F9⟩ := c.def_ 9 (d := dG "_law_classes" 36) rfl
  obtain ⟨fd10, F10⟩ := c.def_ 10 (d := dG "_law_fields" 37) rfl
  obtain ⟨fd11, F11⟩ := c.def_ 11 (d := dG "_law_caught" 38) rfl
  obtain ⟨fd12, F12⟩ := c.def_ 12 (d := dG "law" 39) rfl
  have hI2 : ∀ i : Nat, ∃ fd : FuncData, i < 24 → fsOf i ≠ [] → FunD K "__init__" (nmOf i ++ ".__init__") (defArgs (iniOf i)) (defBody (iniOf i)) (defScope (iniOf i)) [] [] (He.ma K (He.ga K (nmOf i)) "__init__") fd ∧ Binds K fd ("self" :: fsOf i) [] := fun i => by
    by_cases q : i < 24 ∧ fsOf i ≠ []
    · obtain ⟨fd, z⟩ := hI i q.1 q.2
      exact ⟨fd, fun _ _ => z⟩
    · exact ⟨fd0, fun z1 z2 => absurd ⟨z1, z2⟩ q⟩
  obtain ⟨fdI, hfd⟩ := Classical.axiomOfChoice hI2
  refine ⟨{ C := fun i => He.ga K (nmOf i), I := fun i => ⟨He.ma K (He.ga K (nmOf i)) "__init__", fdI i⟩, rm := He.ga K "RoomError", _law_is_int := ⟨He.ga K "_law_is_int", fd0⟩, _law_same_dict := ⟨He.ga K "_law_same_dict", fd1⟩, _law_same := ⟨He.ga K "_law_same", fd2⟩, _law_start := ⟨He.ga K "_law_start", fd3⟩, _law_pull := ⟨He.ga K "_law_pull", fd4⟩, _law_big := ⟨He.ga K "_law_big", fd5⟩, _law_field := ⟨He.ga K "_law_field", fd6⟩, _law_raise_first := ⟨He.ga K "_law_raise_first", fd7⟩, _law_raise := ⟨He.ga K "_law_raise", fd8⟩, _law_classes := ⟨He.ga K "_law_classes", fd9⟩, _law_fields := ⟨He.ga K "_law_fields", fd10⟩, _law_caught := ⟨He.ga K "_law_caught", fd11⟩, law := ⟨He.ga K "law", fd12⟩ }, rfl, ?_⟩
  refine { er := (fun i hi => ?_), rm := PySem.W.mg_of X G (He.eqO_ok x7), isinstance := He.free_ok X G (c.fact 13 (f := .free "isinstance") rfl), int := He.free_ok X G (c.fact 14 (f := .free "int") rfl), bool := He.free_ok X G (c.fact 15 (f := .free "bool") rfl), str := He.free_ok X G (c.fact 16 (f := .free "str") rfl), dict := He.free_ok X G (c.fact 17 (f := .free "dict") rfl), list := He.free_ok X G (c.fact 18 (f := .free "list") rfl), tuple := He.free_ok X G (c.fact 19 (f := .free "tuple") rfl), len := He.free_ok X G (c.fact 20 (f := .free "len") rfl), range := He.free_ok X G (c.fact 21 (f := .free "range") rfl), ValueError := He.free_ok X G (c.fact 22 (f := .free "ValueError") rfl), _law_is_int := ⟨F0, He.glo_ok X G (c.fact 0 (f := .glo "_law_is_int") rfl), FunD.bindsN F0 fun _ _ _ _ _ _ us hl => match us, hl with | [_], _ => rfl⟩, _law_same_dict := ⟨F1, He.glo_ok X G (c.fact 1 (f := .glo "_law_same_dict") rfl), FunD.bindsN F1 fun _ _ _ _ _ _ us hl => match us, hl with | [_, _], _ => rfl⟩, _law_same := ⟨F2, He.glo_ok X G (c.fact 2 (f := .glo "_law_same") rfl), FunD.bindsN F2 fun _ _ _ _ _ _ us hl => match us, hl with | [_, _], _ => rfl⟩, _law_start := ⟨F3, He.glo_ok X G (c.fact 3 (f := .glo "_law_start") rfl), FunD.bindsN F3 fun _ _ _ _ _ _ us hl => match us, hl with | [_], _ => rfl⟩, _law_pull := ⟨F4, He.glo_ok X G (c.fact 4 (f := .glo "_law_pull") rfl), FunD.bindsN F4 fun _ _ _ _ _ _ us hl => match us, hl with | [_, _], _ => rfl⟩, _law_big := ⟨F5, He.glo_ok X G (c.fact 5 (f := .glo "_law_big") rfl), FunD.bindsN F5 fun _ _ _ _ _ _ us hl => match us, hl with | [_, _], _ => rfl⟩, _law_field := ⟨F6, He.glo_ok X G (c.fact 6 (f := .glo "_law_field") rfl), FunD.bindsN F6 fun _ _ _ _ _ _ us hl => match us, hl with | [_], _ => rfl⟩, _law_raise_first := ⟨F7, He.glo_ok X G (c.fact 7 (f := .glo "_law_raise_first") rfl), FunD.bindsN F7 fun _ _ _ _ _ _ us hl => match us, hl with | [_, _, _], _ => rfl⟩, _law_raise := ⟨F8, He.glo_ok X G (c.fact 8 (f := .glo "_law_raise") rfl), FunD.bindsN F8 fun _ _ _ _ _ _ us hl => match us, hl with | [_, _, _], _ => rfl⟩, _law_classes := ⟨F9, He.glo_ok X G (c.fact 9 (f := .glo "_law_classes") rfl), FunD.bindsN F9 fun _ _ _ _ _ _ us hl => match us, hl with | [_], _ => rfl⟩, _law_fields := ⟨F10, He.glo_ok X G (c.fact 10 (f := .glo "_law_fields") rfl), FunD.bindsN F10 fun _ _ _ _ _ _ us hl => match us, hl with | [_, _], _ => rfl⟩, _law_caught := ⟨F11, He.glo_ok X G (c.fact 11 (f := .glo "_law_caught") rfl), FunD.bindsN F11 fun _ _ _ _ _ _ us hl => match us, hl with | [_, _, _], _ => rfl⟩, law := ⟨F12, He.glo_ok X G (c.fact 12 (f := .glo "law") rfl), FunD.bindsN F12 fun _ _ _ _ _ _ us hl => match us, hl with | [_], _ => rfl⟩ }
  have z := all_and (List.all_eq_true.mp x1 _ (ers_mem hi))
  unfold erL at z
  have z1 : oexB K (He.ga K (nmOf i)) = true := z _ (by simp)
  have z2 : He.eqO (PySem.W.nsIn K mainGlobals (nmOf i)) (some (some (.ref (He.ga K (nmOf i))))) = true := z _ (by simp)
  have z3 : He.eqO (PySem.W.findIn K (.ref (He.ga K (nmOf i))) "__setattr__") (some (some (.builtin "object.__setattr__"))) = true := z _ (by simp)
  have z4 : eqB (PySem.W.subIn K (.ref (He.ga K (nmOf i))) (.type "BaseException")) (some true) = true := z _ (by simp)
  have z5 : decide (PySem.W.typeIn K (.ref (He.ga K (nmOf i))) = some (.type "type")) = true := z _ (by simp)
  have z6 : PySem.W.keepIn K (.ref (He.ga K (nmOf i))) = true := z _ (by simp)
  have z7 : He.eqO (PySem.W.findIn K (.ref (He.ga K (nmOf i))) "__getattribute__") (some (some (.builtin "BaseException.__getattribute__"))) = true := z _ (by simp)
  have z8 : He.eqO (PySem.W.findIn K (.ref (He.ga K (nmOf i))) "__getattr__") (some none) = true := z _ (by simp)
  have z9 : PySem.W.hasDictIn K (He.ga K (nmOf i)) = true := z _ (by simp)
  have z10 : He.eqO (PySem.W.findIn K (.ref (He.ga K (nmOf i))) "__class__") (some (some (.builtin "object.__class__"))) = true := z _ (by simp)
  have z11 : eqB (PySem.W.mroIn K (He.ga K (nmOf i)) (.type "object")) (some true) = true := z _ (by simp)
  have z12 : eqB (PySem.W.exmOne K (.ref (He.ga K (nmOf i))) (.ref (He.ga K "RoomError"))) (some true) = true := z _ (by simp)
  have z13 : eqB (PySem.W.kitOne K (.ref (He.ga K (nmOf i))) (.type "ValueError")) (some true) = true := z _ (by simp)
  have z14 : (fsOf i).all (fun f => He.eqO (PySem.W.findIn K (.ref (He.ga K (nmOf i))) f) (some none)) = true := z _ (by simp)
  have z15 : allF.all (fun f => He.eqO (PySem.W.findIn K (.ref (He.ga K (nmOf i))) f) (some none)) = true := z _ (by simp)
  have z16 : ers.all (fun y => eqB (PySem.W.kitOne K (.ref (He.ga K (nmOf i))) (.ref (He.ga K y.1))) (some (decide (nmOf i = y.1)))) = true := z _ (by simp)
  have z17 : He.eqO (PySem.W.findIn K (.ref (He.ga K (nmOf i))) "__init__") (some (some (.ref (He.ma K (He.ga K (nmOf i)) "__init__")))) = true := z _ (by simp)
  have z18 : decide (PySem.W.typeIn K (.ref (He.ma K (He.ga K (nmOf i)) "__init__")) = some (.type "function")) = true := z _ (by simp)
  refine { ox := ⟨oexB_ok z1, He.eqO_ok z3, eqB_ok z4, of_decide_eq_true z5, z6⟩, gl := PySem.W.mg_of X G (He.eqO_ok z2), is := ⟨He.eqO_ok z7, He.eqO_ok z8, eqB_ok z4, z9, He.eqO_ok z10, He.eqO_ok x5, eqB_ok x6, eqB_ok z11⟩, ex := eqB_ok z12, ve := eqB_ok z13, kt := (fun j hj => ?_), no := (fun f hf => He.eqO_ok (List.all_eq_true.mp z14 f hf)), noA := (fun f hf => He.eqO_ok (List.all_eq_true.mp z15 f hf)), ini := He.eqO_ok z17, ti := of_decide_eq_true z18, fn := (fun hf => hfd i hi hf), sup := (fun hf => ?_) }
  · have q := eqB_ok (List.all_eq_true.mp z16 _ (ers_mem hj))
    rw [nm_inj hi hj] at q
    exact q
  · have hin : i ∈ nos := by
      have key : ∀ i : Nat, i < 24 → fsOf i = [] → i ∈ nos := by decide
      exact key i hi hf
    have m := (Bool.and_eq_true_iff.mp (y2 i hin)).2
    have m2 := of_decide_eq_true m
    cases hc : PySem.W.clsIn K (He.ga K (nmOf i)) with
    | none => rw [hc] at m2; cases m2
    | some cd =>
      rw [hc] at m2
      have m3 : cd.mro = [.ref (He.ga K (nmOf i)), .ref (He.ga K "RoomError"), .type "ValueError", .type "Exception", .type "BaseException", .type "object"] := Option.some.inj m2
      refine { fn := hS i hi hf, mro := ⟨cd, _, hc, m3, He.eqO_ok x3⟩, sb := ?_, own := ?_, op := He.eqO_ok x4, sup := He.free_ok X G (c.fact 23 (f := .free "super") rfl), top := by decide +kernel }
      · show PySem.W.mroIn K (He.ga K (nmOf i)) (.type "ValueError") = some true
        unfold PySem.W.mroIn
        rw [hc, Option.bind_some, m3]
        simp
      · unfold PySem.W.mroIn
        rw [hc, Option.bind_some, m3]
        simp
end
end Me
set_option maxHeartbeats 0
open PySem PySem.W PySem.Calls PyProof.Rows
theorem PySem.Challenge.cw_roomleft_k01_errors_and_their_fields_holds : PySem.Challenge.rw_roomleft_k01_errors_and_their_fields.Holds := by
  w_on; o_law
  refine HandSHeadRun.head_any (r := OpenLaw.row PySem.Challenge.rw_roomleft_k01_errors_and_their_fields) (q := view (OpenLaw.row PySem.Challenge.rw_roomleft_k01_errors_and_their_fields).prog [39]) (H := Me.hk) (ob := Me.ob) (M := 7200) (loose := Me.loose)
    (d := HandSHeadRun.topDef (OpenLaw.row PySem.Challenge.rw_roomleft_k01_errors_and_their_fields).prog 39) (kwd := []) Me.ob_eq
    (by kernel_rfl) (fun s => by kernel_rfl) Me.run (by kernel_rfl) (by kernel_rfl) (by kernel_rfl) (by rfl) (by first | assumption | decide +kernel) (by decide +kernel) ⟨rfl, rfl, rfl, rfl, rfl, by decide +kernel⟩ ?hw ?hc
  case hw => w_witness2
  case hc =>
    refine L2.walk_ofE (l := PySem.Challenge.rw_roomleft_k01_errors_and_their_fields) (n := 63) (k := 7) (x := "_law_script") (CX := L2.CX0) rfl (by decide) (by kernel_rfl) ⟨rfl, by decide, by decide⟩ ?F (fun _ _ _ _ z => z)
    intro w mg f h Y G hmg0
    obtain ⟨K, KX, c⟩ := Y
    have hmg : mg ("law" : PySem.Str) = some (.ref f) := by
      have e : (HandSHeadRun.topDef (OpenLaw.row PySem.Challenge.rw_roomleft_k01_errors_and_their_fields).prog 39).name = ("law" : PySem.Str) := by kernel_rfl
      rw [← e]
      exact hmg0
    obtain ⟨a, ea, T⟩ := Me.mk_txt KX G c
    have ef := hmg.symm.trans T.law.mg
    cases ef
    refine ⟨K, a.law.fd, Me.spLaw K, KX, fun s v => ?_, fun H b ns hl _ hS => ⟨b, ns, rfl, hS, hl, fun _ => rfl⟩, fun base _ _ => Me.ok_law T⟩
    have bd := T.law.b
    exact L2.FunD.bindsA (ps := ["_law_script"]) T.law.fn (fun _ _ _ _ _ _ us hl => match us, hl with | [_], _ => rfl) s [v] rfl
