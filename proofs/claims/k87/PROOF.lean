import PyProof.Rows.All
import Wide.All
import OpenK.AllK
import Wide.FinOn
import KE.KStateDown
import KE.KExcSuper
import HandS.Base
import HandS.Call
import HandS.Ends
import HandS.More
import HandS.Words
import HandS.Exc
import HandS.Defaults
import HandS.HeadHook1
import HandS.HeadHook2
import HandS.HeadHook4
import HandS.Head0
import HandS.Head1
import HandS.Head2
import HandS.ForMost
import HandS.ForExc
import HandS.ExcInit
import HandS.ExcField
import HandS.IsInst
import HandS.Wide
import KE.KExcIs
import HandS.WordsExc
import HandS.HotCalls
import HandS.TryMany
import HandS.StrMore
import PyProof.Rows.StrCut
import HandS.Lambda
import HandS.HeadEnd
import HandS.HeadWalk
import PySem.Challenge.RW_roomleft_k87_bits_turned_dropped_and_put
set_option Elab.async false
set_option linter.all false
set_option maxRecDepth 100000
set_option maxHeartbeats 8000000
namespace Me
open PySem PySem.Spec PyProof.Rows L2
/-! ### the text -/
def top (i : Nat) : Stmt := PySem.Challenge.pw_roomleft_k87_bits_turned_dropped_and_put.main.body.getD i (.Pass ⟨0, 0, 0, 0⟩)
/-- the errors, with their fields -/
def ers : List (Str × List Str) := [("NoBits", []), ("BadNumber", ["part"])]
/-- where the errors without fields stand -/
def nos : List Nat := [0]
def iniOf (i : Nat) : Stmt := inClass (top (i + 7)) 0
def nmOf (i : Nat) : Str := (ers.getD i ("", [])).1
def fsOf (i : Nat) : List Str := (ers.getD i ("", [])).2
/-! ### what is asked of the written part -/
/-- an error's class: its object -/
def oexB (K : PySem.W.Frag) (C : Addr) : Bool := match K.lookup C with
  | some ⟨.type "type", _, .cls cd, sl⟩ => (match cd.mro, sl.toList with
    | .ref C' :: bm, [_, _, _, _, some (.builtin n), _] => C' == C && (n == "ValueError.__new__" && (!cd.hasDel && (cd.hasDict && PySem.HandSPX.refsVE bm)))
    | _, _ => false)
  | _ => false
/-- all names of fields -/
def allF : List Str := ["part"]
def eqB (a b : Option Bool) : Bool := decide (a = b)
/-- the class of an error: its attributes, its place among the classes -/
def erL (K : PySem.W.Frag) (x : Str) (fs : List Str) : List Bool :=
  [oexB K (He.ga K x), He.eqO (PySem.W.nsIn K mainGlobals x) (some (some (.ref (He.ga K x)))), He.eqO (PySem.W.findIn K (.ref (He.ga K x)) "__setattr__") (some (some (.builtin "object.__setattr__"))),
   eqB (PySem.W.subIn K (.ref (He.ga K x)) (.type "BaseException")) (some true), decide (PySem.W.typeIn K (.ref (He.ga K x)) = some (.type "type")), PySem.W.keepIn K (.ref (He.ga K x)),
   He.eqO (PySem.W.findIn K (.ref (He.ga K x)) "__getattribute__") (some (some (.builtin "BaseException.__getattribute__"))), He.eqO (PySem.W.findIn K (.ref (He.ga K x)) "__getattr__") (some none), PySem.W.hasDictIn K (He.ga K x),
   He.eqO (PySem.W.findIn K (.ref (He.ga K x)) "__class__") (some (some (.builtin "object.__class__"))), eqB (PySem.W.mroIn K (He.ga K x) (.type "object")) (some true), ers.all (fun y => eqB (PySem.W.exmOne K (.ref (He.ga K x)) (.ref (He.ga K y.1))) (some (decide (x = y.1)))),
   eqB (PySem.W.kitOne K (.ref (He.ga K x)) (.ref (He.ga K "RoomError"))) (some true), fs.all (fun f => He.eqO (PySem.W.findIn K (.ref (He.ga K x)) f) (some none)), allF.all (fun f => He.eqO (PySem.W.findIn K (.ref (He.ga K x)) f) (some none)), ers.all (fun y => eqB (PySem.W.kitOne K (.ref (He.ga K x)) (.ref (He.ga K y.1))) (some (decide (x = y.1)))),
   He.eqO (PySem.W.findIn K (.ref (He.ga K x)) "__init__") (some (some (.ref (He.ma K (He.ga K x) "__init__")))), decide (PySem.W.typeIn K (.ref (He.ma K (He.ga K x) "__init__")) = some (.type "function"))]
def erB (K : PySem.W.Frag) (x : Str) (fs : List Str) : Bool := (erL K x fs).all id
/-- the __init__ of an error without fields: super().__init__() -/
def supB (K : PySem.W.Frag) (x q : Str) : Bool :=
  let C := He.ga K x
  match K.lookup (He.ma K C "__init__") with
  | some ⟨_, _, .func fd, _⟩ => PySem.W.codeIn K fd.code q && (decide (fd.defaults = .none) && (match fd.closure with
    | [(n, cc)] => decide (n = "__class__") && (match K.lookup cc with
      | some ⟨_, _, .cell (some (.ref D)), _⟩ => D == C && (match fd.code with
        | .ref c => (match K.lookup c with
          | some ⟨_, _, .fields vs, _⟩ => (match vs.toList with
            | _ :: _ :: .str f _ :: _ => (PySem.Challenge.pw_roomleft_k87_bits_turned_dropped_and_put.main.file : Str) == f
            | _ => false)
          | _ => false)
        | _ => false)
      | _ => false)
    | _ => false))
  | _ => false
/-- super() of such an error, as the mro has it -/
def mroOk (K : PySem.W.Frag) (x : Str) : Bool := decide ((PySem.W.clsIn K (He.ga K x)).map (fun cd => cd.mro) = some [.ref (He.ga K x), .ref (He.ga K "RoomError"), .type "ValueError", .type "Exception", .type "BaseException", .type "object"])
def exL (K : PySem.W.Frag) : List Bool :=
  [ers.all (fun y => erB K y.1 y.2), nos.all (fun i => supB K (nmOf i) (nmOf i ++ ".__init__") && mroOk K (nmOf i)),
   He.eqO (PySem.W.alongIn K "__init__" [.ref (He.ga K "RoomError"), .type "ValueError", .type "Exception", .type "BaseException", .type "object"]) (some (some (.builtin "ValueError.__init__"))),
   He.eqO (PySem.W.nsIn K cStatics "thirdparty.any") (some none), He.eqO (PySem.W.specialIn K (.builtin "object.__class__") "__get__") (some (some (.builtin "getset_descriptor.__get__"))), eqB (PySem.W.takesIn K (.builtin "object.__class__")) (some true),
   He.eqO (PySem.W.nsIn K mainGlobals "RoomError") (some (some (.ref (He.ga K "RoomError"))))]
def exB (K : PySem.W.Frag) : Bool := (exL K).all id
/-- a method with a closure, as its text tells it -/
abbrev FnS : Type := Option (Str × Str × Arguments × FuncBody × Scope × Addr × Addr)
def fnS (K : PySem.W.Frag) (p : Str × Option Str) : FnS := match K.lookup (He.fAd K p) with
  | some ⟨_, _, .func fd, _⟩ => some (fd.name, fd.qualname, fd.params, fd.body, fd.scope, fd.globals, fd.builtins)
  | _ => none
def valS (i : Nat) : FnS := some ("__init__", nmOf i ++ ".__init__", defArgs (iniOf i), .stmts (defBody (iniOf i)), defScope (iniOf i), mainGlobals, builtinsNs)
def dG (x : Str) (i : Nat) : He.DefD := ⟨(x, none), x, x, defArgs (top i), defBody (top i), defScope (top i), [], []⟩
def dI (i : Nat) : He.DefD := ⟨(nmOf i, some "__init__"), "__init__", nmOf i ++ ".__init__", defArgs (iniOf i), defBody (iniOf i), defScope (iniOf i), [], []⟩
def fn : List He.DefD := [dG "is_int" 1, dG "is_int_within" 2, dG "is_bits" 3, dG "is_one_bit" 4, dG "turned" 10, dG "dropped" 11, dG "put" 12, dG "check_place" 13, dG "_law_is_int" 15, dG "_law_same" 16, dG "_law_is_bits" 17, dG "_law_start" 18, dG "_law_pull" 19, dG "_law_row" 20, dG "_law_outcome" 21, dG "_law_place" 22, dG "_law_one_due" 23, dG "_law_asked" 24, dG "law" 25] ++ [dI 1]
def gls : List Str := ["is_int", "is_int_within", "is_bits", "is_one_bit", "turned", "dropped", "put", "check_place", "_law_is_int", "_law_same", "_law_is_bits", "_law_start", "_law_pull", "_law_row", "_law_outcome", "_law_place", "_law_one_due", "_law_asked", "law"]
def frees : List Str := ["isinstance", "int", "bool", "str", "dict", "list", "tuple", "len", "range", "min", "super"]
def fa : List He.Fa := gls.map .glo ++ frees.map .free
/-- the defs that make lambdas -/
def tf : List He.Defn := [("_law_asked", none)]
/-! ### the Hook -/
def asK (g : Addr → Option Obj) : Nat → List Addr
  | 0 => [mainGlobals, cStatics]
  | n + 1 => He.growD g (asK g n)
abbrev AlK : Type := (He.AlD × Bool × List FnS) × Bool
def obsK0 (K : PySem.W.Frag) : He.AlD × Bool × List FnS := (He.obsD fa fn K, exB K, nos.map fun i => fnS K (nmOf i, some "__init__"))
def valK0 : He.AlD × Bool × List FnS := (He.valD fn, true, nos.map valS)
def valK : AlK := (valK0, true)
def obK (g : Addr → Option Obj) : AlK := (obsK0 (He.frT g (asK g 4)), He.tabsB g tf (He.frT g (asK g 4)))
/-- what is known of the written part, and of the defs' tables -/
structure Says (h : Heap) (K : PySem.W.Frag) : Prop where
  t : obsK0 K = valK0
  hd : ∀ p ∈ tf, PySem.W.codeHdIn K (He.cT K p).1 (He.cT K p).2 = true
  out : ∀ p ∈ tf, K.lookup (He.cT K p).2 = none
  empty : ∀ p ∈ tf, h.get? (He.cT K p).2 = some { cls := .none, data := .fields #[] }
theorem says_of {h : Heap} (e : obK h.get? = valK) : Says h (He.frT h.get? (asK h.get? 4)) := by
  have e1 : obsK0 (He.frT h.get? (asK h.get? 4)) = valK0 := congrArg (fun z : AlK => z.1) e
  have e2 : He.tabsB h.get? tf (He.frT h.get? (asK h.get? 4)) = true := congrArg (fun z : AlK => z.2) e
  have key : ∀ p ∈ tf, PySem.W.codeHdIn (He.frT h.get? (asK h.get? 4)) (He.cT (He.frT h.get? (asK h.get? 4)) p).1 (He.cT (He.frT h.get? (asK h.get? 4)) p).2 = true ∧ ∃ o, h.get? (He.cT (He.frT h.get? (asK h.get? 4)) p).2 = some o ∧ He.emptyTab o = true := fun p hp => by
    obtain ⟨h3, h4⟩ := Bool.and_eq_true_iff.mp (List.all_eq_true.mp e2 p hp)
    refine ⟨h3, ?_⟩
    cases q : h.get? (He.cT (He.frT h.get? (asK h.get? 4)) p).2 with
    | none =>
      rw [q] at h4
      cases h4
    | some o =>
      rw [q] at h4
      exact ⟨o, rfl, h4⟩
  exact ⟨e1, fun p hp => (key p hp).1, fun p hp => by
    obtain ⟨_, o, q, z⟩ := key p hp
    exact He.frT_none q z, fun p hp => by
    obtain ⟨_, o, q, z⟩ := key p hp
    rw [q, He.emptyTab_eq z]⟩
def hk : PySem.W.Hook where
  α := AlK
  obs := fun s => obK s.heap.get?
  val := fun _ => valK
  says := fun _ h => ∃ K : PySem.W.Frag, K.In h ∧ Says h K
  of := fun _ _ e => ⟨_, He.frT_in, says_of e⟩
  keeps := fun _ _ _ ⟨K, hK, c⟩ k => ⟨K, PySem.W.Frag.In.keeps hK k, ⟨c.t, c.hd, c.out, fun p hp => k _ _ (c.empty p hp)⟩⟩
theorem obK_eq {g : Addr → Option Obj} {s : Shared} (h : ∀ a, g a = s.heap.get? a) : obK g = hk.obs s := by
  have e : g = s.heap.get? := funext h
  rw [e] <;> rfl
end Me
set_option maxHeartbeats 0
namespace Me
open PySem PySem.Spec PyProof.Rows L2
abbrev R : PySem.W.OpenRow := PySem.W.OpenLaw.row PySem.Challenge.rw_roomleft_k87_bits_turned_dropped_and_put
def ob (s : PySem.W.SharedT) : AlK := obK (HandSHeadRun.getT s)
theorem ob_eq (s : PySem.W.SharedT) : ob s = hk.obs s.abs := obK_eq (HandSHeadRun.getT_eq s)
def loose1 : List PySem.Str := ["RoomError", "NoBits", "BadNumber", "is_int", "is_int_within", "is_bits", "is_one_bit", "turned", "dropped", "put", "check_place", "_law_is_int", "_law_same"]
def loose2 : List PySem.Str := ["_law_is_bits", "_law_start", "_law_pull", "_law_row", "_law_outcome", "_law_place", "_law_one_due", "_law_asked"]
def loose : List PySem.Str := loose1 ++ loose2
theorem run (w : World) : HandSHeadRun.RunEq R (PySem.W.view R.prog [25]) hk ob 3000 loose w := by
  intro os
  kernel_rfl
end Me
set_option maxHeartbeats 8000000
namespace Me
open PySem L2
/-! ### the readings, one step each, what follows last -/
section
variable {σ : L2.St} {H : Hp} {Q : VK} {QB : Bool → Hp → Prop} {QA : List V → Hp → Prop} {D : Ends} {K : PySem.W.Frag}
theorem i_var {i : Nat} {v : V} (e : σ[i]? = some (some v)) (q : Q v H) : tVar i σ H Q := ⟨v, e, q⟩
theorem i_c {v : V} (q : Q v H) : tC v σ H Q := q
theorem i_op {r : R2} {ta tb : TE} (q : ta σ H fun x H1 => tb σ H1 fun y H2 => r x y H2 Q) : tOp r ta tb σ H Q := q
theorem i_un {r : V → Hp → VK → Prop} {ta : TE} (q : ta σ H fun x H1 => r x H1 Q) : tUn r ta σ H Q := q
theorem i_nil (q : QA [] H) : tNil σ H QA := q
theorem i_cons {ta : TE} {tr : TA} (q : ta σ H fun x H1 => tr σ H1 fun xs H2 => QA (x :: xs) H2) : tCons ta tr σ H QA := q
theorem i_cb {r : List V → Hp → VK → Prop} {t : TA} (q : t σ H fun vs H1 => r vs H1 Q) : tCB r t σ H Q := q
theorem i_call {sp : Sp} {dvs : List V} {E : XK} {t : TA} (q : t σ H fun vs H1 => sp (vs ++ dvs) H1 Q E) : tCall sp dvs E t σ H Q := q
theorem i_seq {t u : TS} (q : t { D with nx := u D } σ H) : tSeq t u D σ H := q
theorem i_next (q : D.nx σ H) : tNext D σ H := q
theorem i_asg {te : TE} {g : TG} (q : te σ H fun x H1 => g x σ H1 D.nx) : tAsg te g D σ H := q
theorem i_gname {i : Nat} {v : V} {R : L2.St → Hp → Prop} (q : R (σ.set i (some v)) H) : gName i v σ H R := q
theorem i_gsub {to ti : TE} {t : TSet} {v : V} {R : L2.St → Hp → Prop} (q : to σ H fun o H1 => ti σ H1 fun i H2 => t o i v H2 fun H3 => R σ H3) : gSub to ti t v σ H R := q
theorem i_ret {te : TE} (q : te σ H D.rt) : tRet te D σ H := q
theorem i_retN (q : D.rt .non H) : tRetN D σ H := q
theorem i_drop {te : TE} (q : te σ H fun _ H1 => D.nx σ H1) : tDrop te D σ H := q
theorem i_ifS {c : TT} {t u : TS} (q : c σ H fun b H1 => if b = true then t D σ H1 else u D σ H1) : tIfS c t u D σ H := q
theorem i_if {c : TT} {ta tb : TE} (q : c σ H fun b H1 => if b = true then ta σ H1 Q else tb σ H1 Q) : tIf c ta tb σ H Q := q
theorem i_and {t u : TT} (q : t σ H fun c H1 => if c = true then u σ H1 QB else QB false H1) : tAnd t u σ H QB := q
theorem i_or {t u : TT} (q : t σ H fun c H1 => if c = true then QB true H1 else u σ H1 QB) : tOr t u σ H QB := q
theorem i_not {t : TT} (q : t σ H fun c H1 => QB (!c) H1) : tNot t σ H QB := q
theorem i_andV {ta tb : TE} (q : ta σ H fun x H1 => ∃ c, x = .bl c ∧ if c = true then tb σ H1 Q else Q (.bl false) H1) : tAndV ta tb σ H Q := q
theorem i_orV {ta tb : TE} (q : ta σ H fun x H1 => ∃ c, x = .bl c ∧ if c = true then Q (.bl true) H1 else tb σ H1 Q) : tOrV ta tb σ H Q := q
theorem i_notV {ta : TE} (q : ta σ H fun x H1 => ∃ c, x = .bl c ∧ Q (.bl (!c)) H1) : tNotV ta σ H Q := q
theorem i_test {t : TE} (q : t σ H fun x H' => ∃ k, x = .bl k ∧ QB k H') : tTest t σ H QB := q
theorem i_tB {t : TE} (q : t σ H fun x H' => ∃ k, x = .bl k ∧ QB k H') : tB t σ H QB := q
theorem i_bl {b : Bool} {R : Bool → Prop} (q : R b) : ∃ k, V.bl b = .bl k ∧ R k := ⟨b, rfl, q⟩
theorem i_rI0 {g : Int → Int → V} {i j : Int} (q : Q (g i j) H) : rI0 g (.int i) (.int j) H Q := ⟨i, j, rfl, rfl, q⟩
theorem i_rI {C : Int → Int → Prop} {g : Int → Int → V} {i j : Int} (c : C i j) (q : Q (g i j) H) : rI C g (.int i) (.int j) H Q := ⟨i, j, rfl, rfl, c, q⟩
theorem i_rU {g : Int → V} {i : Int} (q : Q (g i) H) : rU g (.int i) H Q := ⟨i, rfl, q⟩
theorem i_rEq {x y : V} (s : scal x y = true) (q : Q (.bl (decide (x = y))) H) : rEq x y H Q := ⟨s, q⟩
theorem i_rNe {x y : V} (s : scal x y = true) (q : Q (.bl (!decide (x = y))) H) : rNe x y H Q := ⟨s, q⟩
theorem i_ixl {p : Addr} {xs : List V} {i : Int} {v : V} (h : H p = some (.lst xs)) (e : atI xs i = some v) (q : Q v H) : rIxL K (.ref p) (.int i) H Q := ⟨p, xs, i, v, rfl, rfl, SqL.of h, e, q⟩
theorem i_ixt {p : Addr} {xs : List V} {i : Int} {v : V} (h : H p = some (.tup xs)) (e : atI xs i = some v) (q : Q v H) : rIxT K (.ref p) (.int i) H Q := ⟨p, xs, i, v, rfl, rfl, SqT.of h, e, q⟩
theorem i_setl {p : Addr} {xs : List V} {k : Int} {j : Nat} {v : V} {R : Hp → Prop} (h : H p = some (.lst xs)) (e : ixN xs.length k = some j) (q : R (upd H p (.lst (xs.set j v)))) : rSetL (.ref p) (.int k) v H R := ⟨p, xs, k, j, rfl, rfl, h, e, q⟩
theorem i_lst {t : TA} (q : t σ H fun xs H1 => xs.length ≤ sizeLine ∧ ∀ p, H1 p = none → Q (.ref p) (upd H1 p (.lst xs))) : tLst t σ H Q := q
theorem i_tup {t : TA} (q : t σ H fun xs H1 => xs.length ≤ sizeLine ∧ ∀ p, H1 p = none → Q (.ref p) (upd H1 p (.tup xs))) : tTup t σ H Q := q
theorem i_dnew (q : ∀ p, H p = none → Q (.ref p) (upd H p (.dK []))) : tDNewK σ H Q := q
theorem i_len {p : Addr} {xs : List V} {R : V → Hp → Prop} {vs : List V} (ev : vs = [.ref p]) (h : H p = some (.lst xs)) (q : R (.int xs.length) H) : ∃ (p : Addr) (ys : List V), vs = [V.ref p] ∧ (SqL K H p ys ∨ SqT K H p ys) ∧ R (.int ys.length) H := ⟨p, xs, ev, .inl (SqL.of h), q⟩
theorem i_lenT {p : Addr} {xs : List V} {R : V → Hp → Prop} {vs : List V} (ev : vs = [.ref p]) (h : H p = some (.tup xs)) (q : R (.int xs.length) H) : ∃ (p : Addr) (ys : List V), vs = [V.ref p] ∧ (SqL K H p ys ∨ SqT K H p ys) ∧ R (.int ys.length) H := ⟨p, xs, ev, .inr (SqT.of h), q⟩
end
/-! ### tests -/
theorem i_itd {p : Prop} [Decidable p] {A B : Prop} (ht : p → A) (hf : ¬ p → B) : if decide p = true then A else B := by
  by_cases h : p
  · rw [if_pos (decide_eq_true h)]; exact ht h
  · rw [decide_eq_false h, if_neg Bool.false_ne_true]; exact hf h
theorem i_itn {p : Prop} [Decidable p] {A B : Prop} (ht : ¬ p → A) (hf : p → B) : if (!decide p) = true then A else B := by
  by_cases h : p
  · rw [decide_eq_true h]; exact hf h
  · rw [decide_eq_false h]; exact ht h
theorem i_itb {c : Bool} {A B : Prop} (ht : c = true → A) (hf : c = false → B) : if c = true then A else B := by
  cases c
  · exact hf rfl
  · exact ht rfl
theorem i_itei {a b : Int} {A B : Prop} (ht : a = b → A) (hf : a ≠ b → B) : if decide (V.int a = V.int b) = true then A else B :=
  i_itd (fun h => ht (V.int.inj h)) fun h => hf fun e => h (by rw [e])
theorem i_iten {a b : Int} {A B : Prop} (ht : a ≠ b → A) (hf : a = b → B) : if (!decide (V.int a = V.int b)) = true then A else B :=
  i_itn (fun h => ht fun e => h (by rw [e])) fun h => hf (V.int.inj h)
theorem i_ites {a b : Str} {A B : Prop} (ht : a = b → A) (hf : a ≠ b → B) : if decide (V.str a = V.str b) = true then A else B :=
  i_itd (fun h => ht (V.str.inj h)) fun h => hf fun e => h (by rw [e])
theorem i_itesn {a b : Str} {A B : Prop} (ht : a ≠ b → A) (hf : a = b → B) : if (!decide (V.str a = V.str b)) = true then A else B :=
  i_itn (fun h => ht fun e => h (by rw [e])) fun h => hf (V.str.inj h)
/-! ### the heap -/
theorem upd_get {H : Hp} {a b : Addr} {o : HO} {u : Option HO} (n : b ≠ a) (h : H b = u) : upd H a o b = u := by rw [upd_ne n]; exact h
theorem upd_none {H : Hp} {a b : Addr} {o : HO} (h : upd H a o b = none) : b ≠ a ∧ H b = none := by
  by_cases e : b = a
  · subst e; rw [upd_same] at h; cases h
  · rw [upd_ne e] at h; exact ⟨e, h⟩
theorem ne_lt {H : Hp} {a b : Addr} {xs ys : List V} (h : H a = some (.lst xs)) (h' : H b = some (.tup ys)) : a ≠ b := ne_of h h' (by intro z; cases z)
theorem ne_ll {H : Hp} {a b : Addr} {xs ys : List V} (h : H a = some (.lst xs)) (h' : H b = some (.lst ys)) (n : xs ≠ ys) : a ≠ b := ne_of h h' (by intro z; cases z; exact n rfl)
/-! ### the script's reader -/
/-- at p: a list of the items' list (at L), a place, a number that is used up, a number that is stirred -/
def StAt (H : Hp) (p L : Addr) : Prop := ∃ (ns : List Int) (i b c : Int), H p = some (.lst [.ref L, .int i, .int b, .int c]) ∧ H L = some (.lst (ns.map V.int)) ∧ ns.length ≤ 63 ∧ 0 ≤ i ∧ 0 ≤ b ∧ 0 ≤ c ∧ c < 2147483647
def StOk (H : Hp) (p : Addr) : Prop := ∃ L, StAt H p L
/-- the reader has gone on, nothing else has changed -/
def Went (p : Addr) (H H' : Hp) : Prop := StOk H' p ∧ (∀ a o, a ≠ p → H a = some o → H' a = some o) ∧ ∀ L, StAt H p L → StAt H' p L
theorem Went.get {p : Addr} {H H' : Hp} {a : Addr} {o : HO} (w : Went p H H') (n : a ≠ p) (h : H a = some o) : H' a = some o := w.2.1 a o n h
theorem Went.trans {p : Addr} {H H1 H2 : Hp} (a : Went p H H1) (b : Went p H1 H2) : Went p H H2 := ⟨b.1, fun x o n h => b.2.1 x o n (a.2.1 x o n h), fun L h => b.2.2 L (a.2.2 L h)⟩
theorem StAt.uniq {H : Hp} {p L L' : Addr} (h : StAt H p L) (h' : StAt H p L') : L = L' := by
  obtain ⟨_, _, _, _, e, _⟩ := h
  obtain ⟨_, _, _, _, e', _⟩ := h'
  rw [e] at e'
  injection e' with e'
  injection e' with e'
  injection e' with e' _
  exact V.ref.inj e'
theorem went_mk {H H' : Hp} {p L : Addr} (h : StAt H p L) (h' : StAt H' p L) (f : ∀ a o, a ≠ p → H a = some o → H' a = some o) : Went p H H' := ⟨⟨L, h'⟩, f, fun L' q => by rw [← h.uniq q]; exact h'⟩
theorem kb_NoneType_int : kitB "NoneType" "int" = some false := by decide +kernel
theorem kb_NoneType_bool : kitB "NoneType" "bool" = some false := by decide +kernel
theorem kb_NoneType_str : kitB "NoneType" "str" = some false := by decide +kernel
theorem kb_NoneType_dict : kitB "NoneType" "dict" = some false := by decide +kernel
theorem kb_NoneType_list : kitB "NoneType" "list" = some false := by decide +kernel
theorem kb_NoneType_tuple : kitB "NoneType" "tuple" = some false := by decide +kernel
theorem kb_bool_int : kitB "bool" "int" = some true := by decide +kernel
theorem kb_bool_bool : kitB "bool" "bool" = some true := by decide +kernel
theorem kb_bool_str : kitB "bool" "str" = some false := by decide +kernel
theorem kb_bool_dict : kitB "bool" "dict" = some false := by decide +kernel
theorem kb_bool_list : kitB "bool" "list" = some false := by decide +kernel
theorem kb_bool_tuple : kitB "bool" "tuple" = some false := by decide +kernel
theorem kb_int_int : kitB "int" "int" = some true := by decide +kernel
theorem kb_int_bool : kitB "int" "bool" = some false := by decide +kernel
theorem kb_int_str : kitB "int" "str" = some false := by decide +kernel
theorem kb_int_dict : kitB "int" "dict" = some false := by decide +kernel
theorem kb_int_list : kitB "int" "list" = some false := by decide +kernel
theorem kb_int_tuple : kitB "int" "tuple" = some false := by decide +kernel
theorem kb_str_int : kitB "str" "int" = some false := by decide +kernel
theorem kb_str_bool : kitB "str" "bool" = some false := by decide +kernel
theorem kb_str_str : kitB "str" "str" = some true := by decide +kernel
theorem kb_str_dict : kitB "str" "dict" = some false := by decide +kernel
theorem kb_str_list : kitB "str" "list" = some false := by decide +kernel
theorem kb_str_tuple : kitB "str" "tuple" = some false := by decide +kernel
theorem kb_tuple_int : kitB "tuple" "int" = some false := by decide +kernel
theorem kb_tuple_bool : kitB "tuple" "bool" = some false := by decide +kernel
theorem kb_tuple_str : kitB "tuple" "str" = some false := by decide +kernel
theorem kb_tuple_dict : kitB "tuple" "dict" = some false := by decide +kernel
theorem kb_tuple_list : kitB "tuple" "list" = some false := by decide +kernel
theorem kb_tuple_tuple : kitB "tuple" "tuple" = some true := by decide +kernel
theorem kb_list_int : kitB "list" "int" = some false := by decide +kernel
theorem kb_list_bool : kitB "list" "bool" = some false := by decide +kernel
theorem kb_list_str : kitB "list" "str" = some false := by decide +kernel
theorem kb_list_dict : kitB "list" "dict" = some false := by decide +kernel
theorem kb_list_list : kitB "list" "list" = some true := by decide +kernel
theorem kb_list_tuple : kitB "list" "tuple" = some false := by decide +kernel
theorem kb_dict_int : kitB "dict" "int" = some false := by decide +kernel
theorem kb_dict_bool : kitB "dict" "bool" = some false := by decide +kernel
theorem kb_dict_str : kitB "dict" "str" = some false := by decide +kernel
theorem kb_dict_dict : kitB "dict" "dict" = some true := by decide +kernel
theorem kb_dict_list : kitB "dict" "list" = some false := by decide +kernel
theorem kb_dict_tuple : kitB "dict" "tuple" = some false := by decide +kernel
theorem i_isi {K : PySem.W.Frag} {H : Hp} {Q : VK} {x : V} {t n : String} {b : Bool} (ty : TyX K H x (.type t)) (e : kitB t n = some b) (q : Q (.bl b) H) : rIsi K [x, .ty n] H Q := ⟨x, .ty n, .type t, .type n, b, rfl, .ty n, ty, kit_ty e, q⟩
end Me
set_option maxHeartbeats 8000000
namespace Me
open PySem PySem.Spec PyProof.Rows L2 PySem.W
/-! ### an error without fields: its __init__ says super().__init__() -/
/-- super(): the call of the built-in __init__ that it hands out -/
theorem bound_called {prog : Program} {w : World} {A : Around} {E : Value → Shared → Prop} {hp : Heap} {g : Array GenState} {d : Drawn} {t : Nat} {os : OsState} {nm q : Str} {C N u e t0 : Addr} {bs bm : List Value} {hd : Bool} {sn : List Str} {sub : List Value} {ab : Bool} {col : Option Bool} {dd : Option Addr} {k0 k1 k2 k3 k5 : Option Value} {Q : Value → Shared → Prop}
    (lC : hp.get? C = some (excClassObj nm q C N bs bm hd sn sub ab col dd k0 k1 k2 k3 k5 "ValueError.__new__")) (le : hp.get? e = some (PySem.HandSPX.excO C t0)) (lu : hp.get? u = some (kxs_mw "ValueError.__init__" e))
    (fin : ∀ h1 t1, (∀ b o, b ≠ e → hp.get? b = some o → h1.get? b = some o) → h1.get? e = some (PySem.HandSPX.excO C t1) → Q .none ⟨h1, g, d, t, os⟩) :
    wpAny (model prog w) A (call (.ref u) []) Q E ⟨hp, g, d, t, os⟩ := by
  refine wpAny_call (codeAny_of_tree ?_)
  show wpAny _ A.in1 (callAny (.ref u) ⟨[], []⟩) _ _ _
  simp only [callAny]
  refine wpAny_bind (wpAny_load lu ?_)
  simp only [kxs_mw, (by decide : (Value.type "method-wrapper" == Value.type "method" || Value.type "method-wrapper" == Value.type "builtin_function_or_method" || Value.type "method-wrapper" == Value.type "method-wrapper") = true), if_true]
  refine KFB.if_so (by decide) (wpAny_bind (check_bound_init F.excBase_ValueError.toExcCallFacts lC le rfl ?_))
  refine wpAny_bind (wpAny_pure (wpAny_pure ⟨plainId_quiet F.excBase_ValueError.init.plain _, codeAny_builtin F.excBase_ValueError.initEntry ?_⟩))
  exact exc_init_tree (cls := .ref C) (t0 := t0) (dv := none) (c2 := .none) (c3 := .none) (b4 := .bool false) le (Nat.zero_le _) fun h1 kp e1 _ => fin h1 _ kp e1
/-- the names of such an __init__ -/
def scS : Scope := { kind := .function, names := [(PySem.Str.ofString "self", .local), (PySem.Str.ofString "__class__", .free), (PySem.Str.ofString "super", .globalImplicit)], isGenerator := false, isCoroutine := false, more := [] }
/-- what the written part says of such a class, its __init__ at fI -/
structure SupC (prog : Program) (K : PySem.W.Frag) (mg : Str → Option Value) (C fI : Addr) : Prop where
  fn : ∃ (qn : Str) (p0 p1 p2 p3 p4 : Pos) (ap : Pos) (dV kV doc pm ct oc : Value) (an od : Option Addr) (cda cc : Addr) (osl : Array (Option Value)),
    K.lookup fI = some ⟨oc, od, .func (ksFn "__init__" qn { posonlyargs := [], args := [{ arg := "self", annotation := none, pos := ap }], vararg := none, kwonlyargs := [], kw_defaults := [], kwarg := none, defaults := [] } [.Expr (.Call (.Attribute (.Call (.Name "super" p0) [] [] p1) "__init__" p2) [] [] p3) p4] scS dV kV doc pm an (.ref cda) ct cc), osl⟩ ∧
    codeIn K (.ref cda) qn = true ∧ dV = .none ∧ (∀ env : Env, ∃ pl : Sem Bool, eval (.Call (.Attribute (.Call (.Name "super" p0) [] [] p1) "__init__" p2) [] [] p3) env = (do
      let ov ← attributeBase (.Call (.Name "super" p0) [] [] p1) "__init__" env (eval (.Call (.Name "super" p0) [] [] p1) env)
      standAt p2.atName
      let (f, first) ← holding [ov] (getMethod ov "__init__" pl)
      callWith p3 f first (backTo p3 (starEach [] env)) [])) ∧
    (∃ cl cld csl, K.lookup cc = some ⟨cl, cld, .cell (some (.ref C)), csl⟩) ∧ ∃ (ccl : Value) (cdd : Option Addr) (vs : Array Value) (ccs : Array (Option Value)) (file : Str) (tf : Tok), K.lookup cda = some ⟨ccl, cdd, .fields vs, ccs⟩ ∧ vs[2]? = some (.str file tf) ∧ ((prog.main.file : Str) == file) = true
  mro : ∃ cd r, clsIn K C = some cd ∧ cd.mro = .ref C :: r ∧ alongIn K "__init__" r = some (some (.builtin "ValueError.__init__"))
  sb : subIn K (.ref C) (.type "ValueError") = some true
  own : mroIn K C (.ref C) = some true
  op : nsIn K cStatics "thirdparty.any" = some none
  sup : mg "super" = none
  top : (prog.main.scope.names.lookup ("super" : Str)).isSome = false
theorem zero_init {prog : Program} {w : World} {A : Around} {R : Result → Shared → Prop} {s : Shared} {K : PySem.W.Frag} {mg mb : Str → Option Value} {C fI x t0 : Addr} (Z : SupC prog K mg C fI) (T : OexC K C) (X : K.In s.heap) (lim : s.heap.NoLimit)
    (G : s.heap.Ns mainGlobals mg) (B : s.heap.Ns builtinsNs mb) (bs : mb "super" = some (.type "super")) (hx : s.heap.get? x = some (PySem.HandSPX.excO C t0)) (room : A.depth < recursionLimit)
    (fin : ∀ h1 tk t1, (∀ b o, b ≠ x → s.heap.get? b = some o → h1.get? b = some o) → h1.get? x = some (PySem.HandSPX.excO C t1) → R (.ok (.ret .none)) { s with heap := h1, toks := tk }) :
    codeAny (model prog w) A (.call (.ref fI) ⟨[.ref x], []⟩) R s := by
  obtain ⟨qn, p0, p1, p2, p3, p4, ap, dV, kV, doc, pm, ct, oc, an, od, cda, cc, osl, lf, lcode, hdV, hev, ⟨cl, cld, csl, lcc⟩, ccl, cdd, vs, ccs, file, tf, lcd, hvs, hfile⟩ := Z.fn
  obtain ⟨cd, r, hcd, hmro, hal⟩ := Z.mro
  obtain ⟨nm, q, N, bss, bm, sn, sub, ab, col, dd, k0, k1, k2, k3, k5, hC, hbm⟩ := T.cls
  have hcd2 : cd = { name := nm, bases := bss, mro := .ref C :: bm, ns := N, qualname := q, hasDict := true, slotNames := sn, subclasses := sub, abstract := ab, collection := col, hasDel := false } := by
    unfold clsIn at hcd; rw [hC] at hcd; exact (Option.some.inj hcd).symm
  have hbr : bm = r := by rw [hcd2] at hmro; exact (List.cons.inj hmro).2
  have hk : scS.kind = .function := rfl
  have nS : scS.names.lookup ("self" : Str) = some .local := by decide +kernel
  have nU : scS.names.lookup ("super" : Str) = some .globalImplicit := by decide +kernel
  have nC : scS.names.lookup ("__class__" : Str) = some .free := by decide +kernel
  refine ks_codeAny_call_defAt (binds := [("self", .ref x)]) room (X _ _ lf) rfl lim (codeRec_of X lcode) rfl (BindsTo.of_eq (by subst hdV; rfl)) (show ∀ x ∈ scS.names, x.2 ≠ .cell by decide +kernel) (fun y hy => by rw [List.mem_singleton.mp hy]; exact nS) (fun h1 ns1 kp1 => ?_) rfl rfl hk
  have X1 : K.In h1 := X.keeps kp1
  have hx1 := kp1 _ _ hx
  have hC1 := X1 _ _ hC
  refine ks_wpAt_execs_cons (ks_wpAt_Expr_any ?_ (by rfl) (by rfl))
  obtain ⟨pl, hpl⟩ := hev (callEnv (ksFn "__init__" qn { posonlyargs := [], args := [{ arg := "self", annotation := none, pos := ap }], vararg := none, kwonlyargs := [], kw_defaults := [], kwarg := none, defaults := [] } [.Expr (.Call (.Attribute (.Call (.Name "super" p0) [] [] p1) "__init__" p2) [] [] p3) p4] scS dV kV doc pm an (.ref cda) ct cc) s.heap.objs.size fI)
  refine ks_wpAt_MethodCall ?_ hpl
  refine ks_wpAt_super_base (prog := prog) nU nC (by decide) rfl (X1 _ _ lf) rfl rfl rfl (X1 _ _ lcd) rfl hvs hfile Z.top ?_
  refine ks_loadName_global hk nU (PySem.Calls.loadGlobal_builtin (mg := mg) (mb := mb) (G.keeps kp1) Z.sup (B.keeps kp1) bs ⟨rfl, ?_⟩)
  refine wpAny_loadName_free hk nC rfl ⟨_, X1 _ _ lcc, rfl⟩ (wpAny_loadName_local hk nS ns1 (by rfl) ?_)
  refine ks_wpAny_isType_cls hC1 rfl ⟨rfl, ?_⟩
  refine ks_wpAny_call_super hC1 rfl hx1 rfl (fun c => by intro z; cases z) (looks_mroIn X1 Z.own) (fun h2 lso kp2 => ?_)
  have X2 : K.In h2 := X1.keeps kp2
  have hx2 := kp2 _ _ hx1
  have hI : Looks (model prog w) h2 (isInstance (.ref x) (.type "ValueError")) true := by
    have J : InstAt h2 x (PySem.HandSPX.excO C t0) C none := ⟨hx2, rfl, rfl, trivial⟩
    exact J.type.andThen (looks_subIn X2 Z.sb)
  have hxC : x ≠ C := by
    intro z
    have e := X1 _ _ hC
    rw [← z, hx1] at e
    cases e
  refine kxs_getMethod kxs_ValueError lso (looks_opaque X2 Z.op) (l₀ := cd.mro) (l := r) (fun A' Q' E' s' k' q' => wpAny_bind ((looks_clsIn X2 hcd) A' _ E' s' k' (wpAny_pure q'))) ?_ X2 hal hI hxC (by decide) ?_
  · rw [hmro]; simp [List.dropWhile_cons]
  refine kxs_callWith (i := "ValueError.__init__") (x := x) (by rfl) (evalArgs_empty ⟨Heap.get?_push_at rfl rfl, ?_⟩)
  have up : ∀ b o, h2.get? b = some o → (h2.push (kxs_mw "ValueError.__init__" x)).get? b = some o := fun b o e => Heap.get?_push_of_some _ e
  refine bound_called (up _ _ (kp2 _ _ hC1)) (up _ _ hx2) (Heap.get?_push_at rfl rfl) (fun h3 t1 kp3 e3 => ?_)
  show _root_.PySem.wpAt _ _ _ (execs [] _) _ _ _
  refine wpAt_of_wpAny (wpAny_execs_nil ?_)
  exact fin h3 _ t1 (fun b o nb e => kp3 b o nb (up _ _ (kp2 _ _ (kp1 _ _ e)))) e3
end Me
namespace Me
open PySem PySem.Spec PyProof.Rows L2
/-- C(), C an error's class without fields -/
theorem pmk_zero {X : Cx} {x : Str} {C fI : Addr} {p pos : Pos} (T : OexC X.K C) (Z : SupC X.prog X.K X.mg C fI) (iC : PySem.W.findIn X.K (.ref C) "__init__" = some (some (.ref fI))) (tI : PySem.W.typeIn X.K (.ref fI) = some (.type "function")) (hr : Room 1 X.A)
    (hm : X.mg x = some (.ref C)) (hg : Gl X x := by rfl) (hdb : (x == ("__debug__" : Str)) = false := by decide) : PMk X (.Call (.Name x p) [] [] pos) (fun _ H Q => Q (.ref C) none H) := by
  intro pins s σ H Q I h
  obtain ⟨nm, q, N, bss, bm, sn, sub, ab, col, dd, k0, k1, k2, k3, k5, hC, hbm⟩ := T.cls
  refine wpAny_Call_Name_kw (ld_glob I hg hm (PySem.W.callWith_K0 I.kIn T.kC ?_) hdb)
  show wpAny _ _ (call (.ref C) []) _ _ _
  obtain ⟨mb, hb1, hb2⟩ := I.mod.blt
  have KX := I.kIn
  have lim := I.nolimit
  have GG := I.mod.glob.keeps I.bk
  have BB := hb1.keeps I.bk
  obtain ⟨hp, g, dr, tk, os⟩ := s
  have old : ∀ b o, hp.get? b = some o → ((hp.push (PySem.W.kdv_tup [])).push (PySem.HandSPX.excO C hp.objs.size)).get? b = some o := fun b o e => Heap.get?_push_of_some _ (Heap.get?_push_of_some _ e)
  have here : ((hp.push (PySem.W.kdv_tup [])).push (PySem.HandSPX.excO C hp.objs.size)).get? (hp.objs.size + 1) = some (PySem.HandSPX.excO C hp.objs.size) := by heap_get
  refine wpAny_call (PySem.HandSPX.call_own F.excBase_ValueError (fun Y => PySem.HandSPX.refsVE_contains Y bm hbm) (KX _ _ hC) (PySem.W.looks_findIn KX iC) (fun self => PySem.W.bind_fn KX self tI) (Nat.zero_le _) ?_)
  refine zero_init (s := ⟨(hp.push (PySem.W.kdv_tup [])).push (PySem.HandSPX.excO C hp.objs.size), g, dr, tk, os⟩) (mg := X.mg) (mb := mb) Z T (KX.keeps old) (lim.keeps old) (GG.keeps old) (BB.keeps old) ((hb2 _ (by decide)).trans (by decide +kernel)) here ?_ (fun h1 tk1 t1 kp e1 => ?_)
  · show (X.A.under (.builtin "type.__call__" ⟨.ref C :: [], []⟩)).depth < recursionLimit
    rw [make_depth]
    have := hr.dp
    omega
  · have stay : ∀ b o, hp.get? b = some o → h1.get? b = some o := fun b o e => kp b o (Nat.ne_of_lt (Nat.lt_succ_of_lt (Heap.lt_size e))) (old b o e)
    refine ⟨rfl, ?_⟩
    obtain ⟨G1, g1, g2⟩ := restrict h1 fun b => decide (b ≠ hp.objs.size + 1)
    have gk : ∀ b, b ≠ hp.objs.size + 1 → G1.get? b = h1.get? b := fun b hb => g1 b (decide_eq_true hb)
    have ge : G1.get? (hp.objs.size + 1) = none := g2 _ (by simp)
    have J : Inv X pins σ H ⟨G1, g, dr, tk1, os⟩ := I.kept (h' := G1) (t' := tk1) fun b o e => (gk b (Nat.ne_of_lt (Nat.lt_succ_of_lt (Heap.lt_size e)))).trans (stay b o e)
    refine ⟨hp.objs.size + 1, _, _, ⟨G1, g, dr, tk1, os⟩, H, .ref C, none, rfl, J, fun b o e => ?_, ge, e1, ⟨rfl, rfl⟩, rfl, rfl, I.hok.fresh (Nat.le_succ _), rfl, I.bare, raises_own T.exC T.tyC, h⟩
    by_cases hb : b = hp.objs.size + 1
    · have e2 : G1.get? b = some o := e
      rw [hb, ge] at e2
      cases e2
    · exact (gk b hb).symm.trans e
end Me
set_option maxHeartbeats 8000000
namespace Me
open PySem PySem.Spec PyProof.Rows L2
/-! ### a def that is handed the exception that its caller's suite holds -/
structure FnP (P : Program) (w : World) (K : PySem.W.Frag) (mg : Str → Option Value) (base : Heap) (k : Nat) (f : Addr) (fd : FuncData) (ps : List Str) (sp : Addr × Obj → Sp) : Prop where
  len : ∀ p vs H Q E, sp p vs H Q E → vs.length = ps.length
  run : ∀ (A : Around) (outer : List Env) (s : Shared) (H : Hp) (args : Args) (us : List Value) (vs : List V) (Q : VK) (E : XK) (p : Addr × Obj), L2H.RoomH k A → L2H.PinOk outer H s p → Env0 P w K mg base A outer s H → BindsTo s fd args (ps.zip us) → Vals vs us → sp p vs H Q E →
    codeAny (model P w) A (.call (.ref f) args) (CR CX0 outer P w H s Q E) s
theorem okP {P : Program} {w : World} {K : PySem.W.Frag} {mg : Str → Option Value} {base : Heap} {x qual : Str} {params : Arguments} {body : List Stmt} {scope : Scope} {f : Addr} {fd : FuncData} {N ps : List Str} {k : Nat} {sp : Addr × Obj → Sp}
    (F : FunD K x qual params body scope [] [] f fd) (S : FnScope N ps scope) (len : ∀ p vs H Q E, sp p vs H Q E → vs.length = ps.length)
    (go : ∀ (cdv : Value) (A : Around) (outer : List Env) (s : Shared) (H : Hp) (vs : List V) (Q : VK) (E : XK) (p : Addr × Obj), L2H.RoomH k (A.deeper (envOfC qual scope s.heap.objs.size f cdv)) → sp p vs H Q E →
      ∃ t, PSs (L2H.cxH CX0 P w K mg base N qual scope f cdv A outer s H E p) body t ∧ t { nx := fun _ H' => Q .non H', rt := Q } (L2.start N vs) H) : FnP P w K mg base (k + 1) f fd ps sp := by
  obtain ⟨oc, od, dV, kV, doc, pm, an, cdv, ct, osl, rfl, lk, hcd, _, _⟩ := F.ex
  refine ⟨len, fun A outer s H args us vs Q E p room pin e0 hbd rv hsp => ?_⟩
  have ll := len _ _ _ _ _ hsp
  have kin : K.In s.heap := e0.mod.kin.keeps fun b o z => (e0.bs b o z).1
  have lim : s.heap.NoLimit := e0.mod.nolimit.keeps fun b o z => (e0.bs b o z).1
  have knd : ∀ y ∈ ps.zip us, scope.names.lookup y.1 = some .local ∨ (scope.names.lookup y.1 = some .cell ∧ ((cellsFrom (s.heap.objs.size + 1) scope.names []).lookup y.1).isSome = true) := by
    rintro ⟨n, v⟩ hy
    cases S.par n (List.of_mem_zip hy).1 with
    | inl q => exact .inl q
    | inr q => exact .inr ⟨q, PySem.W.cellsFrom_some _ _ _ (.inl q)⟩
  refine codeAny_call_function room.depth (kin _ _ lk) rfl S.co S.gen rfl (PySem.W.codeRec_of kin hcd) (hbd _ _ _ _ ?_)
  refine wpAny_newFunctionEnv_cells S.kind knd fun env he s1 inn => ?_
  subst he
  refine ⟨lim.keeps inn.toInCall.keep, codeAny_func ?_⟩
  obtain ⟨t, ht, hq⟩ := go cdv A outer s H vs Q E p (room.deeper _) hsp
  have I0 : Inv (L2H.cxH CX0 P w K mg base N qual scope f cdv A outer s H E p) [] (L2.start N vs) H s1 := L2H.inv_startH S pin e0 ll rv inn
  have out : ∀ {σ1 : L2.St} {H1 : Hp} {s2 : Shared} {v : V} {u : Value}, Inv (L2H.cxH CX0 P w K mg base N qual scope f cdv A outer s H E p) [] σ1 H1 s2 → RelV v u → Q v H1 → CE outer P w H s Q u s2 :=
    fun {σ1 H1 s2 v u} J r q => ⟨v, H1, J.os, J.bare, J.base, J.hok, r, q⟩
  refine wpAny_mono (ht.run [] s1 (L2.start N vs) H _ I0 hq) (fun fl s2 hs => ?_) fun e s2 hs => hs
  cases fl with
  | next => obtain ⟨σ1, H1, J, q⟩ := hs; exact out (v := V.non) (u := Value.none) J rfl q
  | ret u => obtain ⟨v, σ1, H1, J, r, q⟩ := hs; exact out J r q
  | brk => obtain ⟨_, _, _, q⟩ := hs; exact q.elim
  | cont => obtain ⟨_, _, _, q⟩ := hs; exact q.elim
section
variable {X : Cx} {k : Nat} {f : Addr} {fd : FuncData} {ps : List Str} {sp : Addr × Obj → Sp} {x : Str} {q pos : Pos} {e : Expr} {es : List Expr} {t : TA} {p : Addr × Obj}
theorem pe_callP (F : FnP X.prog X.w X.K X.mg X.base k f fd ps sp) (room : L2H.RoomH k X.A) (hp : p ∈ X.pn) (hg : Gl X x) (hm : X.mg x = some (.ref f)) (hk : PySem.W.keepIn X.K (.ref f) = true) (hb : Binds X.K fd ps [])
    (ha : PA X (e :: es) t) (hdb : (x == ("__debug__" : Str)) = false := by decide) (he : starEach (e :: es) X.env = (false, eval e X.env) :: starEach es X.env := by rfl) (hpl : (backTo pos (starEach es X.env)).any (·.1) = false := by rfl) :
    PE X (.Call (.Name x q) (e :: es) [] pos) (tCall (sp p) [] E0 t) := by
  refine ⟨fun pins s σ H Q I h => wpAny_Call_Name_kw (ld_glob I hg hm ?_ hdb)⟩
  refine PySem.W.callWith_K (h₀ := X.base) I.ok.mod.kin hk (thn (ha.run pos pins s σ H _ I h) fun us s1 hh => ?_) he hpl
  obtain ⟨vs, H1, J, r, hsp⟩ := hh
  rw [List.append_nil] at hsp
  refine ⟨J.kIn, ?_⟩
  have ll : us.length = ps.length := by rw [← r.length]; exact F.len _ _ _ _ _ hsp
  have bd := hb s1 us J.kIn (by rw [List.append_nil]; exact ll)
  rw [List.append_nil] at bd
  have P1 := J.pin p (List.mem_append_left _ hp)
  have pin : L2H.PinOk X.stack H1 s1 p := ⟨P1.1, P1.2.1, fun hm => (List.mem_cons.mp (J.stkSub p.1 hm)).elim P1.2.2.1 P1.2.2.2.1, P1.2.2.2.2⟩
  refine wpAny_call (codeAny_mono (F.run X.A X.stack s1 H1 ⟨us, []⟩ us vs Q E0 p room pin J.env0 bd r hsp) fun r s2 hq => ?_)
  cases r with
  | error e => exact hq.elim
  | ok fl =>
    cases fl with
    | ret u => exact J.after hq
    | next => exact hq.elim
    | brk => exact hq.elim
    | cont => exact hq.elim
end
/-! ### isinstance, attributes of such an exception -/
/-- what the written part says of the class D for that -/
structure IsC (K : PySem.W.Frag) (D : Addr) : Prop where
  ga : PySem.W.findIn K (.ref D) "__getattribute__" = some (some (.builtin "BaseException.__getattribute__"))
  gg : PySem.W.findIn K (.ref D) "__getattr__" = some none
  sb : PySem.W.subIn K (.ref D) (.type "BaseException") = some true
  hd : PySem.W.hasDictIn K D = true
  cl : PySem.W.findIn K (.ref D) "__class__" = some (some (.builtin "object.__class__"))
  sg : PySem.W.specialIn K (.builtin "object.__class__") "__get__" = some (some (.builtin "getset_descriptor.__get__"))
  tk : PySem.W.takesIn K (.builtin "object.__class__") = some true
  mo : PySem.W.mroIn K D (.type "object") = some true
/-- the exception's own dict, where it has one -/
def DictOk (H : Hp) : Option Addr → Prop
  | none => True
  | some dd => ∃ fs, H dd = some (.xd fs)
theorem inst_of {X : Cx} {pins : List (Addr × Obj)} {σ : L2.St} {H : Hp} {s : Shared} {a D : Addr} {oe : Obj} {d : Option Addr} (I : Inv X pins σ H s) (hp : (a, oe) ∈ X.pn) (hz : Zc (.ref D) d oe) (hf : ∃ vs, oe.data = .fields vs) (hd : DictOk H d) :
    ∃ od, PySem.W.InstAt s.heap a oe D od := by
  have g := (I.pin (a, oe) (List.mem_append_left _ hp)).1
  obtain ⟨vs, hv⟩ := hf
  obtain ⟨oc, odc, oda, osl⟩ := oe
  obtain ⟨h1, h2⟩ := hz
  dsimp only at h1 h2 hv
  subst h1 h2 hv
  cases odc with
  | none => exact ⟨none, g, rfl, rfl, trivial⟩
  | some dd =>
    obtain ⟨fs, hdd⟩ := hd
    obtain ⟨mA, ⟨o, es, ep, ho, _⟩, _⟩ := (show ObjOk X.prog X.w H s.heap dd (.xd fs) from I.hok dd _ hdd)
    exact ⟨some o, g, rfl, rfl, ho⟩
def rIsP (K : PySem.W.Frag) (a D : Addr) (d : Option Addr) : List V → Hp → VK → Prop := fun xs H Q => ∃ (c : V) (cv : Value) (b : Bool), xs = [.ref a, c] ∧ ClsV c cv ∧ PySem.W.kitOne K (.ref D) cv = some b ∧ DictOk H d ∧ Q (.bl b) H
theorem call_isP {X : Cx} {a D : Addr} {oe : Obj} {d : Option Addr} (C : IsC X.K D) (hp : (a, oe) ∈ X.pn) (hz : Zc (.ref D) d oe) (hf : ∃ vs, oe.data = .fields vs) : CallR X (.builtin "isinstance") (rIsP X.K a D d) := by
  intro pins s σ H xs us Q I r h
  obtain ⟨c, cv, b, rfl, kc, e, hd, q⟩ := h
  obtain ⟨u1, u2, rfl, r1, r2⟩ := vals2 r
  have e2 := kc.eq r2
  subst e2
  cases (show u1 = Value.ref a from r1)
  obtain ⟨od, J⟩ := inst_of I hp hz hf hd
  have hcl : (PySem.W.clsIn X.K D).isSome = true := by
    obtain ⟨cd, hc, _⟩ := PySem.W.any_some C.hd
    rw [hc]; rfl
  exact PySem.W.kia_one (PySem.W.kitx_exc (od := od) (ox := oe) hcl C.ga C.gg C.sb C.cl C.sg C.tk C.mo) I.kIn J e (fun z => nomatch z) fun tk => ⟨.bl b, H, I.tok tk, rfl, q⟩
/-- e.f -/
def tXp (a : Addr) (d : Option Addr) (f : Str) (te : TE) : TE := fun σ H Q => te σ H fun x H1 => x = .ref a ∧ ∃ (dd : Addr) (fs : List (Str × V)) (v : V), d = some dd ∧ H1 dd = some (.xd fs) ∧ fs.lookup f = some v ∧ Q v H1
theorem pe_xP {X : Cx} {a D : Addr} {oe : Obj} {d : Option Addr} {e : Expr} {te : TE} {pos : Pos} {n : Str} (C : IsC X.K D) (hno : PySem.W.findIn X.K (.ref D) n = some none) (hp : (a, oe) ∈ X.pn) (hz : Zc (.ref D) d oe) (hf : ∃ vs, oe.data = .fields vs) (he : PE X e te)
    (hb : attributeBase e n X.env (eval e X.env) = eval e X.env := by rfl) : PE X (.Attribute e n pos) (tXp a d n te) := by
  refine ⟨fun pins s σ H Q I h => attr_of hb (thn (he.run pins s σ H _ I h) fun u s1 hh => ?_)⟩
  obtain ⟨x, H1, J, rx, ex, dd, fs, v, ed, ea, l, q⟩ := hh
  subst ex
  obtain rfl : u = Value.ref a := rx
  subst ed
  have g := (J.pin (a, oe) (List.mem_append_left _ hp)).1
  obtain ⟨vs, hv⟩ := hf
  obtain ⟨mA, hns, hr⟩ := (show ObjOk X.prog X.w H1 s1.heap dd (.xd fs) from J.hok dd _ ea)
  obtain ⟨od, ho, hl⟩ := lookIn_ns hns
  obtain ⟨u, hu, ru⟩ := RelO.some_of (v := v) (o := mA n) (by rw [← l]; exact hr n)
  have T : PySem.W.InstAt s1.heap a oe D (some od) := ⟨g, hz.1, by unfold PySem.W.notCls; rw [hv] <;> rfl, by rw [hz.2]; exact ho⟩
  exact HandSPX.exc_get J.kIn T C.ga C.gg C.sb (PySem.W.findObj_own C.hd hno rfl (by rw [hl, hu])) (handed_of ru) ⟨v, H1, J.tok _, ru, q⟩
end Me
set_option maxHeartbeats 8000000
namespace Me
open PySem L2
structure DA where
  f : Addr
  fd : FuncData
/-- a def of the text -/
structure Df (K : PySem.W.Frag) (mg : Str → Option Value) (x : Str) (st : Stmt) (ps : List Str) (d : DA) : Prop where
  fn : FunD K x x (defArgs st) (defBody st) (defScope st) [] [] d.f d.fd
  mg : mg x = some (.ref d.f)
  b : Binds K d.fd ps []
theorem Df.kp {K : PySem.W.Frag} {mg : Str → Option Value} {x : Str} {st : Stmt} {ps : List Str} {d : DA} (h : Df K mg x st ps d) : PySem.W.keepIn K (.ref d.f) = true := h.fn.kp
theorem ok0 {P : Program} {w : World} {K : PySem.W.Frag} {mg : Str → Option Value} {base : Heap} {x qual : Str} {params : Arguments} {body : List Stmt} {scope : Scope} {f : Addr} {fd : FuncData} {N ps : List Str} {k : Nat} {sp : Sp} (F : FunD K x qual params body scope [] [] f fd) (S : FnScope N ps scope) (len : ∀ vs H Q E, sp vs H Q E → vs.length = ps.length)
    (go : ∀ (cdv : Value) (A : Around) (outer : List Env) (s : Shared) (H : Hp) (vs : List V) (Q : VK) (E : XK), Room k (A.deeper (PyProof.Rows.envOfC qual scope s.heap.objs.size f cdv)) → sp vs H Q E →
      ∃ t, PSs (cxOf CX0 P w K mg base N qual scope f cdv A outer s H E).nox body t ∧ t { nx := fun _ H' => Q .non H', rt := Q } (start N vs) H) : FnOk P w K mg base CX0 (k + 1) f fd ps sp := by
  refine F.ok S len fun cdv A outer s H vs Q E hr h => ?_
  obtain ⟨t, h1, q⟩ := go cdv A outer s H vs Q E hr h
  exact ⟨t, h1.nox, q⟩
theorem Df.ok {P : Program} {w : World} {K : PySem.W.Frag} {mg : Str → Option Value} {base : Heap} {x : Str} {st : Stmt} {ps ps' N : List Str} {d : DA} {k : Nat} {sp : Sp} (D : Df K mg x st ps' d) (S : FnScope N ps (defScope st)) (len : ∀ vs H Q E, sp vs H Q E → vs.length = ps.length)
    (go : ∀ (cdv : Value) (A : Around) (outer : List Env) (s : Shared) (H : Hp) (vs : List V) (Q : VK) (E : XK), Room k (A.deeper (PyProof.Rows.envOfC x (defScope st) s.heap.objs.size d.f cdv)) → sp vs H Q E →
      ∃ t, PSs (cxOf CX0 P w K mg base N x (defScope st) d.f cdv A outer s H E).nox (defBody st) t ∧ t { nx := fun _ H' => Q .non H', rt := Q } (start N vs) H) : FnOk P w K mg base CX0 (k + 1) d.f d.fd ps sp := ok0 D.fn S len go
theorem Df.okX {P : Program} {w : World} {K : PySem.W.Frag} {mg : Str → Option Value} {base : Heap} {x : Str} {st : Stmt} {ps ps' N : List Str} {d : DA} {k : Nat} {sp : Sp} (D : Df K mg x st ps' d) (S : FnScope N ps (defScope st)) (len : ∀ vs H Q E, sp vs H Q E → vs.length = ps.length)
    (go : ∀ (cdv : Value) (A : Around) (outer : List Env) (s : Shared) (H : Hp) (vs : List V) (Q : VK) (E : XK), Room k (A.deeper (PyProof.Rows.envOfC x (defScope st) s.heap.objs.size d.f cdv)) → sp vs H Q E →
      ∃ t, PSs (cxOf (L2.CX P w) P w K mg base N x (defScope st) d.f cdv A outer s H E) (defBody st) t ∧ t { nx := fun _ H' => Q .non H', rt := Q } (start N vs) H) : FnOk P w K mg base (L2.CX P w) (k + 1) d.f d.fd ps sp := D.fn.ok S len go
/-! ### the errors -/
/-- what the written part says of the i-th error -/
structure Er (P : Program) (K : PySem.W.Frag) (mg : Str → Option Value) (C : Nat → Addr) (I : Nat → DA) (rm : Addr) (i : Nat) : Prop where
  ox : OexC K (C i)
  gl : mg (nmOf i) = some (.ref (C i))
  is : IsC K (C i)
  ex : ∀ j, j < 2 → PySem.W.exmOne K (.ref (C i)) (.ref (C j)) = some (decide (i = j))
  rk : PySem.W.kitOne K (.ref (C i)) (.ref rm) = some true
  kt : ∀ j, j < 2 → PySem.W.kitOne K (.ref (C i)) (.ref (C j)) = some (decide (i = j))
  no : ∀ f ∈ fsOf i, PySem.W.findIn K (.ref (C i)) f = some none
  noA : ∀ f ∈ allF, PySem.W.findIn K (.ref (C i)) f = some none
  ini : PySem.W.findIn K (.ref (C i)) "__init__" = some (some (.ref (I i).f))
  ti : PySem.W.typeIn K (.ref (I i).f) = some (.type "function")
  fn : fsOf i ≠ [] → FunD K "__init__" (nmOf i ++ ".__init__") (defArgs (iniOf i)) (defBody (iniOf i)) (defScope (iniOf i)) [] [] (I i).f (I i).fd ∧ Binds K (I i).fd ("self" :: fsOf i) []
  sup : fsOf i = [] → SupC P K mg (C i) (I i).f
def spI1 (C : Addr) (f : Str) : Sp := fun vs H Q _ => ∃ (a : Addr) (y : V), vs = [.ref a, y] ∧ H a = some (exo a C none) ∧ ∀ dx, H dx = none → dx ≠ a → Q .non (upd (upd H dx (exd dx [(f, y)])) a (exo a C (some dx)))
section
variable {P : Program} {w : World} {K : PySem.W.Frag} {mg : Str → Option Value} {base : Heap} {C : Nat → Addr} {I : Nat → DA} {rm : Addr}
theorem ini1 {i : Nat} {f : Str} (E : Er P K mg C I rm i) (hf : fsOf i = [f]) (S : FnScope (["self", f] : List Str) ["self", f] (defScope (iniOf i)))
    (tm : ∀ (cdv : Value) (A : Around) (outer : List Env) (s : Shared) (H : Hp) (E : XK), PSs (cxOf CX0 P w K mg base (["self", f] : List Str) (nmOf i ++ ".__init__") (defScope (iniOf i)) (I i).f cdv A outer s H E).nox (defBody (iniOf i)) (tOst K f (tVar 0) (tVar 1))) : FnOk P w K mg base CX0 1 (I i).f (I i).fd (["self", f] : List Str) (spI1 (C i) f) := by
  obtain ⟨F, _⟩ := E.fn (by rw [hf]; simp)
  refine ok0 F S (fun vs H Q E h => ?_) (fun cdv A outer s H vs Q E' hr h => ?_)
  · obtain ⟨a, y, rfl, _⟩ := h
    rfl
  · obtain ⟨a, y, rfl, e, k⟩ := h
    refine ⟨_, tm _ _ _ _ _ _, ?_⟩
    exact ⟨_, rfl, _, rfl, a, C i, rfl, E.ox, E.no f (by rw [hf]; simp), .inl ⟨e, fun dx n ne => k dx n ne⟩⟩
end
end Me
set_option maxHeartbeats 8000000
namespace Me
open PySem L2
theorem PS.imp {X : Cx} {st : Stmt} {t t' : TS} (h : PS X st t) (i : ∀ D σ H, t' D σ H → t D σ H) : PS X st t' := ⟨fun pins s σ H D I q => h.run pins s σ H D I (i D σ H q)⟩
theorem ne_none {H : Hp} {a b : Addr} {o : HO} (h' : H a = none) (h : H b = some o) : b ≠ a := ne_of_none h h'
theorem heap1 {H : Hp} {a dx : Addr} {o1 o2 o3 o : HO} (ha : H a = none) (hd : dx ≠ a) : upd (del (upd (upd (upd H a o1) dx o2) a o3) a) dx o = upd H dx o := by
  funext b
  by_cases h1 : b = dx
  · subst h1; rw [upd_same, upd_same]
  · rw [upd_ne h1, upd_ne h1]
    by_cases h2 : b = a
    · subst h2; rw [del_same, ha]
    · rw [del_ne h2, upd_ne h2, upd_ne h1, upd_ne h2]
section
variable {X : Cx} {C : Nat → Addr} {I : Nat → DA} {rm : Addr} {i : Nat} {x f g : Str} {W : WX} {p pos pos2 : Pos} {a b : Expr}
/-- raise C() -/
theorem ps_thr0 (E : Er X.prog X.K X.mg C I rm i) (hf : fsOf i = []) (hx : nmOf i = x) (hc : X.calm = true) (hr : Room 2 X.A) (tk : Takes X W) (hg : Gl X x) (hdb : (x == ("__debug__" : Str)) = false := by decide) :
    PS X (.Raise (some (.Call (.Name x p) [] [] pos)) none pos2) (fun _ σ H => W (.ref (C i)) none σ H) := by
  subst hx
  exact PS.imp (ps_raise hc tk (pmk_zero E.ox (E.sup hf) E.ini E.ti (hr.mono (by decide)) E.gl hg hdb)) fun D σ H h => h
/-- raise C(v), v written -/
theorem ps_thr1 {v : V} (E : Er X.prog X.K X.mg C I rm i) (hf : fsOf i = [f]) (hx : nmOf i = x) (hc : X.calm = true) (G : FnOk X.prog X.w X.K X.mg X.base CX0 1 (I i).f (I i).fd (["self", f] : List Str) (spI1 (C i) f)) (hr : Room 2 X.A) (tk : Takes X W) (ha : PE X a (tC v)) (hg : Gl X x)
    (hdb : (x == ("__debug__" : Str)) = false := by decide) (hs : starEach [a] X.env = [(false, eval a X.env)] := by rfl) :
    PS X (.Raise (some (.Call (.Name x p) [a] [] pos)) none pos2) (fun _ σ H => ∀ d, H d = none → W (.ref (C i)) (some d) σ (upd H d (.xd [(f, v)]))) := by
  subst hx
  have bd := (E.fn (by rw [hf]; simp)).2
  rw [hf] at bd
  refine PS.imp (ps_raise hc tk (pmk_oex (dvs := []) E.ox E.ini E.ti G hr bd .nil pass0 hg E.gl (pa_cons ha pa_nil hs) hdb hs rfl)) fun D σ H q => ?_
  refine ⟨by show 1 ≤ 1000; decide, fun a na => ⟨a, v, rfl, upd_same, fun dx hd ne => ⟨rfl, dx, [(f, v)], ?_, ?_, ?_, ?_⟩⟩⟩
  · exact upd_same
  · rw [upd_ne ne, upd_same]
  · rw [upd_ne ne] at hd; exact hd
  · rw [heap1 na ne]
    rw [upd_ne ne] at hd
    exact q dx hd
end
/-! ### several except clauses with names -/
abbrev HdT : Type := Value × Nat × (Addr → Value → Option Addr → TS)
def wMA (K : PySem.W.Frag) (Wout : WX) (D : Ends) : List HdT → WX
  | [] => Wout
  | (c, i, ts) :: r => fun cls d σ H => ∃ b, PySem.W.exmOne K cls c = some b ∧ (b = true → ∀ a, H a = none → ts a cls d { nx := fun σ' H' => D.nx (σ'.set i none) H', rt := D.rt, bk := fun σ' H' => D.bk (σ'.set i none) H', ct := fun σ' H' => D.ct (σ'.set i none) H' } (σ.set i (some (.ref a))) H) ∧
    (b = false → wMA K Wout D r cls d σ H)
inductive HdsA (X : Cx) : List ExceptHandler → List HdT → Prop
  | nil : HdsA X [] []
  | cons {x n : Str} {i : Nat} {c : Value} {ts : Addr → Value → Option Addr → TS} {b₀ : Stmt} {suite : List Stmt} {np pos' : Pos} {hds : List ExceptHandler} {l : List HdT} (hi : X.N[i]? = some n) (hln : X.env.kindOf n = some .local) (hc : Names X x c)
      (hsu : ∀ (a : Addr) (oe : Obj) (cls : Value) (d : Option Addr) (pn : List (Addr × Obj)), Zc cls d oe → (∃ vs, oe.data = .fields vs) → PSs (X.suite a ((a, oe) :: pn)) (b₀ :: suite) (ts a cls d)) (r : HdsA X hds l) :
      HdsA X (.ExceptHandler (some (.Name x np)) (some n) (b₀ :: suite) pos' :: hds) ((c, i, ts) :: l)
section
variable {X : Cx} {body : List Stmt} {h₀ : ExceptHandler} {hds : List ExceptHandler} {l : List HdT} {pos : Pos} {tb : WX → TS} {Wout : WX}
theorem ps_try_manyA (hs : X.stack = X.env :: X.outer) (hf : X.env.frame = some X.env.locals) (hN : X.N.Nodup) (tk : Takes X Wout)
    (hb : ∀ (W : WX) (pn : List (Addr × Obj)) (xe : Value → Shared → Prop), Takes (X.tr pn xe) W → PassesOwn (model X.prog X.w) X.A X.env xe → PSs (X.tr pn xe) body (tb W))
    (hh : HdsA X (h₀ :: hds) l) : PS X (.Try body (h₀ :: hds) [] [] pos) (fun D σ H => tb (wMA X.K Wout D l) D σ H) := by
  refine ⟨fun pins s σ H D I h => ?_⟩
  have ok := I.ok
  have hfr : X.A.frames = some (X.env :: X.outer) := by rw [ok.frames, hs]
  refine wpAny_Try_except ?_
  refine wpAny_mono ((hb (wMA X.K Wout D l) (X.pn ++ pins) (fun e s₁ => wpAny (model X.prog X.w) X.A (noteFrame e X.env) (fun _ s₂ => wpAny (model X.prog X.w) X.A (setFlight e none) (fun _ s₃ =>
    wpAny (model X.prog X.w) X.A (handleBy e X.env (h₀ :: hds)) (SP X pins D) X.xe s₃) X.xe s₂) X.xe s₁) (fun u s' xx => ?_) PassesOwn.looking).run [] s σ H D (I.toTry _) h) (fun f s1 hsp => ?_) (fun e s1 he => he)
  · -- the catch
    obtain ⟨a, B, sI, pins', σ', H', cls, d, rfl, J', nb, up, sky, na, os, ag, w⟩ := xx
    have J : Inv X pins σ' H' sI := J'.ofTry ok
    have sky' : Sky B (X.env :: X.outer) a (Zc cls d) X.env.locals s'.heap := by rw [← hs]; exact sky
    show wpAny (model X.prog X.w) X.A (noteFrame (.ref a) X.env) _ _ _
    refine Sky.land Zc.steady hfr hf sky' fun h3 fl3 up3 => ?_
    have J3 : Inv X pins σ' H' { s' with heap := h3 } := J.landed nb fl3.1 (up.trans up3) os ag
    obtain ⟨oe3, vs3, he3, hz3, hd3⟩ := fl3.there
    have notFr : ∀ {h : Heap} {o : Obj} {vs : Array Value}, h.FunFrames B (X.env :: X.outer) → h.get? a = some o → o.data = .fields vs → a ∉ frs (X.env :: X.outer) := fun {h o vs} ff e dd hm => by
      obtain ⟨_, o', e', hnf⟩ := ff.mem hm
      rw [e] at e'; cases e'
      exact hnf _ dd
    have nfr := notFr fl3.2.2.1 he3 hd3
    have nL : a ≠ X.env.locals := fun z => nfr (List.mem_filterMap.mpr ⟨X.env, List.mem_cons_self, by rw [hf, z]⟩)
    have nF : a ∉ X.fs := fun hm => by
      obtain ⟨e, he, q⟩ := List.mem_filterMap.mp hm
      exact nfr (List.mem_filterMap.mpr ⟨e, List.mem_cons_of_mem _ he, q⟩)
    have S3 := J3.suite he3 hd3 na nL nF
    have go : ∀ {hds' : List ExceptHandler} {l' : List HdT}, HdsA X hds' l' → wMA X.K Wout D l' cls d σ' H' →
        wpAny (model X.prog X.w) X.A (handleBy (.ref a) X.env hds') (SP X pins D) X.xe { s' with heap := h3 } := by
      intro hds' l' hk
      induction hk with
      | nil =>
        intro w
        refine wpAny_handleBy_nil ?_
        obtain ⟨k1, k2, k3, oe, vs, T, oT, ts', he, hz, hd, h1, hr⟩ := id fl3
        unfold PySem.passOn
        refine wpAny_bind (wpAny_field he hd h1 ?_)
        rw [if_neg (show ¬ ((Value.ref T == Value.none) = true) from by simp)]
        have fin : wpAny (model X.prog X.w) X.A (setFlight (.ref a) X.env.frame) (fun _ s4 => wpAny (model X.prog X.w) X.A (throw (.ref a) : Sem Flow) (SP X pins D) X.xe s4) X.xe { s' with heap := h3 } := by
          rw [hf]
          refine HandSPX.setFlight_upZ fl3 fun h4 hh4 up4 => wpAny_throw (tk _ _ ?_)
          exact ⟨a, B, sI, pins, σ', H', cls, d, rfl, J, nb, (up.trans up3).trans up4, .inr (.inr (by rw [hs]; exact hh4)), na, os, ag, w⟩
        first
          | exact wpAny_bind (wpAny_pure (wpAny_bind fin))
          | exact wpAny_bind fin
      | @cons x n i c ts b₀ suite np pos' hds2 l2 hi hln hc hsu r ih =>
        intro w
        obtain ⟨b, hb1, hyes, hno⟩ := w
        refine wpAny_handleBy_cons (codeAny_handlers_test ?_) (by intro q; cases q)
        have LT : PySem.W.Looks (model X.prog X.w) h3 (typeOf (.ref a)) cls := fun A Q E s k q => wpAny_typeOf_ref (k _ _ he3) (by rw [hz3.1]; exact q)
        have LM := PySem.W.exm_one (M := model X.prog X.w) (J3.kIn) LT hb1
        have test : ∀ {Q : Value → Shared → Prop} {E : Value → Shared → Prop}, Q c { s' with heap := h3 } → wpAny (model X.prog X.w) (X.A.mark (some (.ref a))) (eval (.Name x np) X.env) Q E { s' with heap := h3 } := fun {Q E} q => by
          obtain ⟨hg, hdbg, hm | ⟨hm, hv, hnn⟩⟩ := hc
          · exact ld_glob (X := X.suite a ((a, oe3) :: (X.pn ++ pins))) S3 hg hm q hdbg
          · exact ld_blt (X := X.suite a ((a, oe3) :: (X.pn ++ pins))) S3 hg hm hv q hnn hdbg
        refine test (LM.here ?_)
        cases b with
        | true =>
          refine codeAny_handlers_suite_as ?_
          refine HandSPX.lands_againZ fl3 fun h4 fl4 up4 => ?_
          have J4 : Inv X pins σ' H' { s' with heap := h4 } := J.landed nb fl4.1 ((up.trans up3).trans up4) os ag
          obtain ⟨oe4, vs4, he4, hz4, hd4⟩ := fl4.there
          have S4 := J4.suite he4 hd4 na nL nF
          refine store_ok (X := X.suite a ((a, oe4) :: (X.pn ++ pins))) (v := .ref a) S4 hN hi (Or.inl hln) rfl (fun s5 S5 => ?_) (.inr hln)
          refine wpAny_mono ((hsu a oe4 cls d (X.pn ++ pins) hz4 ⟨_, hd4⟩).run [] s5 _ H' _ S5 (hyes rfl a na)) (fun f s6 hsp => ?_) (fun _ _ z => False.elim z)
          have end_ : ∀ {σ6 : St} {H6 : Hp} {Q : Shared → Prop}, Inv (X.suite a ((a, oe4) :: (X.pn ++ pins))) [] σ6 H6 s6 → (∀ s7, Inv X pins (σ6.set i none) H6 s7 → Q s7) →
              wpAny (model X.prog X.w) X.A (do bindName X.env n .none; unbindBehindTheSuite X.env n pos') (fun _ s7 => Q s7) X.xe s6 := fun {σ6 H6 Q} S6 hq => gone_ok (S6.unsuite ok) hN hi hln hq
          cases f with
          | next =>
            obtain ⟨σ6, H6, S6, q6⟩ := hsp
            exact end_ S6 fun s7 J7 => ⟨_, _, J7, q6⟩
          | brk =>
            obtain ⟨σ6, H6, S6, q6⟩ := hsp
            exact end_ S6 fun s7 J7 => ⟨_, _, J7, q6⟩
          | cont =>
            obtain ⟨σ6, H6, S6, q6⟩ := hsp
            exact end_ S6 fun s7 J7 => ⟨_, _, J7, q6⟩
          | ret u =>
            obtain ⟨v6, σ6, H6, S6, r6, q6⟩ := hsp
            exact end_ S6 fun s7 J7 => ⟨_, _, _, J7, r6, q6⟩
        | false =>
          show wpAny _ X.A (handleBy (.ref a) X.env hds2) _ _ _
          exact ih (hno rfl)
    exact go hh w
  · cases f with
    | next =>
      obtain ⟨σ', H', J', q⟩ := hsp
      exact wpAny_execs_nil ⟨σ', H', J'.ofTry ok, q⟩
    | brk =>
      obtain ⟨σ', H', J', q⟩ := hsp
      exact ⟨σ', H', J'.ofTry ok, q⟩
    | cont =>
      obtain ⟨σ', H', J', q⟩ := hsp
      exact ⟨σ', H', J'.ofTry ok, q⟩
    | ret u =>
      obtain ⟨v, σ', H', J', r, q⟩ := hsp
      exact ⟨v, σ', H', J'.ofTry ok, r, q⟩
end
end Me
local macro_rules | `(tactic| walk_at "kb") => `(tactic| first | with_reducible exact Me.kb_NoneType_int | with_reducible exact Me.kb_NoneType_bool | with_reducible exact Me.kb_NoneType_str | with_reducible exact Me.kb_NoneType_dict | with_reducible exact Me.kb_NoneType_list | with_reducible exact Me.kb_NoneType_tuple | with_reducible exact Me.kb_bool_int | with_reducible exact Me.kb_bool_bool | with_reducible exact Me.kb_bool_str | with_reducible exact Me.kb_bool_dict | with_reducible exact Me.kb_bool_list | with_reducible exact Me.kb_bool_tuple | with_reducible exact Me.kb_int_int | with_reducible exact Me.kb_int_bool | with_reducible exact Me.kb_int_str | with_reducible exact Me.kb_int_dict | with_reducible exact Me.kb_int_list | with_reducible exact Me.kb_int_tuple | with_reducible exact Me.kb_str_int | with_reducible exact Me.kb_str_bool | with_reducible exact Me.kb_str_str | with_reducible exact Me.kb_str_dict | with_reducible exact Me.kb_str_list | with_reducible exact Me.kb_str_tuple | with_reducible exact Me.kb_tuple_int | with_reducible exact Me.kb_tuple_bool | with_reducible exact Me.kb_tuple_str | with_reducible exact Me.kb_tuple_dict | with_reducible exact Me.kb_tuple_list | with_reducible exact Me.kb_tuple_tuple | with_reducible exact Me.kb_list_int | with_reducible exact Me.kb_list_bool | with_reducible exact Me.kb_list_str | with_reducible exact Me.kb_list_dict | with_reducible exact Me.kb_list_list | with_reducible exact Me.kb_list_tuple | with_reducible exact Me.kb_dict_int | with_reducible exact Me.kb_dict_bool | with_reducible exact Me.kb_dict_str | with_reducible exact Me.kb_dict_dict | with_reducible exact Me.kb_dict_list | with_reducible exact Me.kb_dict_tuple)
local macro_rules | `(tactic| walk_at "hp") => `(tactic| first | with_reducible assumption | with_reducible exact L2.upd_same | ((with_reducible refine' Me.upd_get ?n ?h); (case h => walk_at "hp"); (case n => walk_at "ne")) | ((with_reducible refine' Me.Went.get ?w ?n ?h); (case w => with_reducible assumption); (case h => walk_at "hp"); (case n => walk_at "ne")))
local macro_rules | `(tactic| walk_at "ne") => `(tactic| first | with_reducible assumption | ((with_reducible refine Ne.symm ?_); with_reducible assumption) | ((with_reducible refine' Me.ne_none ?n ?h); (case n => with_reducible assumption); (case h => walk_at "hp")) | ((with_reducible refine' Ne.symm (Me.ne_none ?n ?h)); (case n => with_reducible assumption); (case h => walk_at "hp")))
local macro_rules | `(tactic| walk_at "side") => `(tactic| first | rfl | assumption | omega | decide | (constructor <;> first | rfl | assumption | omega | decide) | (refine ⟨?_, ?_, ?_⟩ <;> first | omega | decide) | (refine Or.inl ⟨?_, ?_⟩ <;> first | omega | decide) | (refine Or.inr ⟨?_, ?_⟩ <;> first | omega | decide))
local macro_rules | `(tactic| walk_at "go1") => `(tactic| first
  | with_reducible refine Me.i_seq ?_ | with_reducible refine Me.i_var rfl ?_ | with_reducible refine Me.i_c ?_ | with_reducible refine Me.i_op ?_ | with_reducible refine Me.i_cons ?_ | with_reducible refine Me.i_nil ?_
  | with_reducible refine Me.i_cb ?_ | with_reducible refine Me.i_call ?_ | with_reducible refine Me.i_asg ?_ | with_reducible refine Me.i_gname ?_ | with_reducible refine Me.i_gsub ?_ | with_reducible refine Me.i_ret ?_ | with_reducible refine Me.i_retN ?_
  | with_reducible refine Me.i_drop ?_ | with_reducible refine Me.i_ifS ?_ | with_reducible refine Me.i_if ?_ | with_reducible refine Me.i_and ?_ | with_reducible refine Me.i_or ?_ | with_reducible refine Me.i_not ?_ | with_reducible refine Me.i_test ?_ | with_reducible refine Me.i_tB ?_
  | with_reducible refine Me.i_andV ?_ | with_reducible refine Me.i_orV ?_ | with_reducible refine Me.i_notV ?_ | with_reducible refine Me.i_next ?_ | with_reducible refine Me.i_un ?_ | with_reducible refine Me.i_lst ?_ | with_reducible refine Me.i_tup ?_ | with_reducible refine Me.i_dnew (fun _ _ => ?_)
  | with_reducible refine Me.i_rI0 ?_ | ((with_reducible refine Me.i_rI ?_ ?_); (walk_at "side")) | with_reducible refine Me.i_rU ?_ | with_reducible refine Me.i_rEq rfl ?_ | with_reducible refine Me.i_rNe rfl ?_
  | ((with_reducible refine' Me.i_ixl ?h ?e ?q); (case h => walk_at "hp"); (case e => rfl)) | ((with_reducible refine' Me.i_ixt ?h ?e ?q); (case h => walk_at "hp"); (case e => rfl)) | ((with_reducible refine' Me.i_setl ?h ?e ?q); (case h => walk_at "hp"); (case e => rfl))
  | with_reducible refine Me.i_bl ?_
  | with_reducible refine L2.iteT ?_ | with_reducible refine L2.iteF ?_
  | ((with_reducible refine' ⟨_, _, rfl, Or.inl (L2.SqL.of ?h), ?q⟩); (case h => walk_at "hp"))
  | ((with_reducible refine' ⟨_, _, rfl, Or.inr (L2.SqT.of ?h), ?q⟩); (case h => walk_at "hp"))
  | ((with_reducible refine' Me.i_isi ?t ?e ?q); (case t => walk_at "ty"); (case e => walk_at "kb"))
  | (with_reducible refine Or.inl ⟨_, rfl, ?_⟩)
  | ((with_reducible refine And.intro (a := List.length _ ≤ PySem.sizeLine) ?s (fun _ _ => ?q)); (case s => (simp only [List.length_cons, List.length_nil]; decide))))
local macro_rules | `(tactic| walk_at "ty") => `(tactic| first | exact L2.TyX.base L2.TyOf.non | exact L2.TyX.base (L2.TyOf.bl _) | exact L2.TyX.base (L2.TyOf.int _) | exact L2.TyX.base (L2.TyOf.str _) | ((refine' L2.TyX.base (L2.TyOf.tup ?h)); (case h => walk_at "hp")) | ((refine' L2.TyX.base (L2.TyOf.lst ?h)); (case h => walk_at "hp")) | ((refine' L2.TyX.base (L2.TyOf.dK ?h)); (case h => walk_at "hp")))
local macro_rules | `(tactic| walk_at "go") => `(tactic| repeat (walk_at "go1"))
set_option maxHeartbeats 8000000
namespace Me
open PySem L2


structure Ad where
  C : Nat → Addr
  I : Nat → DA
  rm : Addr
  tc : Addr
  tp : Addr
  is_int : DA
  is_int_within : DA
  is_bits : DA
  is_one_bit : DA
  turned : DA
  dropped : DA
  put : DA
  check_place : DA
  _law_is_int : DA
  _law_same : DA
  _law_is_bits : DA
  _law_start : DA
  _law_pull : DA
  _law_row : DA
  _law_outcome : DA
  _law_place : DA
  _law_one_due : DA
  _law_asked : DA
  law : DA
structure Txt (P : Program) (K : PySem.W.Frag) (mg : Str → Option Value) (a : Ad) : Prop where
  er : ∀ i, i < 2 → Er P K mg a.C a.I a.rm i
  rm : mg "RoomError" = some (.ref a.rm)
  code : a._law_asked.fd.code = .ref a.tc
  isinstance : mg "isinstance" = none
  int : mg "int" = none
  bool : mg "bool" = none
  str : mg "str" = none
  dict : mg "dict" = none
  list : mg "list" = none
  tuple : mg "tuple" = none
  len : mg "len" = none
  range : mg "range" = none
  min : mg "min" = none
  is_int : Df K mg "is_int" (top 1) ["thing"] a.is_int
  is_int_within : Df K mg "is_int_within" (top 2) ["thing", "least", "most"] a.is_int_within
  is_bits : Df K mg "is_bits" (top 3) ["thing"] a.is_bits
  is_one_bit : Df K mg "is_one_bit" (top 4) ["thing"] a.is_one_bit
  turned : Df K mg "turned" (top 10) ["bits", "at"] a.turned
  dropped : Df K mg "dropped" (top 11) ["bits", "at"] a.dropped
  put : Df K mg "put" (top 12) ["bits", "at", "bit"] a.put
  check_place : Df K mg "check_place" (top 13) ["bits", "at", "least_behind"] a.check_place
  _law_is_int : Df K mg "_law_is_int" (top 15) ["_law_told"] a._law_is_int
  _law_same : Df K mg "_law_same" (top 16) ["_law_told", "_law_due"] a._law_same
  _law_is_bits : Df K mg "_law_is_bits" (top 17) ["_law_told"] a._law_is_bits
  _law_start : Df K mg "_law_start" (top 18) ["_law_script"] a._law_start
  _law_pull : Df K mg "_law_pull" (top 19) ["_law_state", "_law_many"] a._law_pull
  _law_row : Df K mg "_law_row" (top 20) ["_law_state", "_law_many"] a._law_row
  _law_outcome : Df K mg "_law_outcome" (top 21) ["_law_call"] a._law_outcome
  _law_place : Df K mg "_law_place" (top 22) ["_law_thing", "_law_many"] a._law_place
  _law_one_due : Df K mg "_law_one_due" (top 23) ["_law_bits", "_law_at", "_law_more", "_law_good"] a._law_one_due
  _law_asked : Df K mg "_law_asked" (top 24) ["_law_bits", "_law_at", "_law_bit"] a._law_asked
  law : Df K mg "law" (top 25) ["_law_script"] a.law
abbrev Same (H H' : Hp) : Prop := ∀ b o, H b = some o → H' b = some o
/-! ### things -/
inductive Th (H : Hp) : V → Prop where
  | non : Th H .non
  | bl (b : Bool) : Th H (.bl b)
  | int (i : Int) : Th H (.int i)
  | str (x : Str) : Th H (.str x)
  | tup {a : Addr} {xs : List V} (h : H a = some (.tup xs)) : Th H (.ref a)
  | lst {a : Addr} {xs : List V} (h : H a = some (.lst xs)) : Th H (.ref a)
  | dK {a : Addr} {kvs : List (Key × V)} (h : H a = some (.dK kvs)) : Th H (.ref a)
theorem Th.keep {H H' : Hp} {v : V} (h : Th H v) (s : ∀ b o, (∀ ps, o ≠ .tbl ps) → H b = some o → H' b = some o) : Th H' v := by
  cases h with
  | non => exact .non
  | bl b => exact .bl b
  | int i => exact .int i
  | str x => exact .str x
  | tup h => exact .tup (s _ _ (fun _ z => by cases z) h)
  | lst h => exact .lst (s _ _ (fun _ z => by cases z) h)
  | dK h => exact .dK (s _ _ (fun _ z => by cases z) h)
theorem Th.same {H H' : Hp} {v : V} (h : Th H v) (s : Same H H') : Th H' v := h.keep fun b o _ e => s b o e
def isI : V → Bool
  | .int _ => true
  | _ => false
def withinV : V → Int → Int → Bool
  | .int i, l, m => decide (l ≤ i) && decide (i ≤ m)
  | _, _, _ => false
theorem i_yes {c : Bool} {A B : Prop} (h : c = true) (q : A) : if c = true then A else B := by rw [if_pos h]; exact q
theorem i_no {c : Bool} {A B : Prop} (h : c = false) (q : B) : if c = true then A else B := by rw [h, if_neg Bool.false_ne_true]; exact q
theorem i_m1 {r : V → List V → Hp → VK → Prop} {to te : TE} {σ : L2.St} {H : Hp} {Q : VK} (q : to σ H fun x H1 => (∃ a, x = .str a) ∧ te σ H1 fun y H2 => r x [y] H2 Q) : tM1 r to te σ H Q := q
/-! ### texts of bits -/
def bitB (c : Nat) : Bool := decide (c = 48) || decide (c = 49)
def bitsS (z : Str) : Bool := z.cps.toList.all bitB
def bitsV : V → Bool
  | .str z => bitsS z
  | _ => false
def oneV : V → Bool
  | .str z => bitsS z && decide (z.length = 1)
  | _ => false
theorem goes01 (c : Nat) : (Str.ofString "01").cps.contains c = bitB c := by
  have e : (Str.ofString "01").cps = #[48, 49] := by decide +kernel
  rw [e]
  unfold bitB
  by_cases h : c = 48
  · subst h; simp
  · by_cases h2 : c = 49
    · subst h2; simp
    · rw [decide_eq_false h, decide_eq_false h2]
      simp [h, h2]
theorem strip01 (z : Str) : decide (V.str (Txt.stripChars z "01") = V.str "") = bitsS z := by
  unfold bitsS
  have eg : (Str.ofString "01").cps.contains = bitB := funext goes01
  have e1 : Txt.stripChars z "01" = Builtin.Str.strSub z (stripLo bitB true z) (stripHi bitB true z (stripLo bitB true z)) := by
    rw [← eg]; exact PyProof.Rows.stripBy_eq _ _ _ _
  obtain ⟨l1, l2, l3⟩ := PyProof.Rows.lo_facts bitB z
  obtain ⟨h1, h2, h3, h4⟩ := PyProof.Rows.hi_facts bitB z _ l1
  have len : (Txt.stripChars z "01").length = stripHi bitB true z (stripLo bitB true z) - stripLo bitB true z := by rw [e1]; exact size_strSub _ _ _ h2
  have at_ : ∀ k, k < z.length → (h : k < z.cps.toList.length) → z.cps.getD k 0 = z.cps.toList[k] := fun k hk h => by
    rw [← PyProof.Rows.getD_list]
    rw [List.getD, List.getElem?_eq_getElem h]; rfl
  have ln : z.cps.toList.length = z.length := by simp [Str.length]
  by_cases h : z.cps.toList.all bitB = true
  · rw [h]
    refine decide_eq_true ?_
    have all : ∀ k, k < z.length → bitB (z.cps.getD k 0) = true := fun k hk => by
      rw [at_ k hk (by omega)]
      exact List.all_eq_true.mp h _ (List.getElem_mem _)
    have lo : stripLo bitB true z = z.length := by
      rcases l3 with l3 | l3
      · exact l3
      · by_cases q : stripLo bitB true z < z.length
        · rw [all _ q] at l3; cases l3
        · omega
    have z0 : (Txt.stripChars z "01").length = 0 := by omega
    congr 1
    generalize Txt.stripChars z "01" = u at z0
    cases u with
    | mk c =>
      have : c = #[] := Array.eq_empty_of_size_eq_zero z0
      rw [this]; rfl
  · rw [Bool.eq_false_iff.mpr h]
    refine decide_eq_false fun q => h ?_
    have q := V.str.inj q
    have z0 : (Txt.stripChars z "01").length = 0 := by rw [q]; rfl
    refine List.all_eq_true.mpr fun c hc => ?_
    obtain ⟨k, hk, rfl⟩ := List.mem_iff_getElem.mp hc
    rw [← at_ k (by omega) hk]
    by_cases r : k < stripLo bitB true z
    · exact l2 k r
    · exact h3 k (by omega) (by omega)
/-- texts that are no longer than this law's -/
def Sh (v : V) : Prop := ∀ z, v = .str z → z.length ≤ 9000
section
variable {P : Program} {w : World} {K : PySem.W.Frag} {mg : Str → Option Value} {base : Heap} {a : Ad}
def spIsInt : Sp := fun vs H Q _ => ∃ x, vs = [x] ∧ Th H x ∧ Q (.bl (isI x)) H
theorem ok_is_int (T : Txt P K mg a) : FnOk P w K mg base CX0 1 a.is_int.f a.is_int.fd ["thing"] spIsInt := by
  have sc : FnScope ["thing"] ["thing"] (defScope (top 1)) := ⟨rfl, rfl, rfl, by decide +kernel, rfl, by decide +kernel, by decide +kernel⟩
  refine T.is_int.ok sc (fun vs H Q E h => ?_) (fun cdv A outer s H vs Q E hr h => ?_)
  · obtain ⟨x, rfl, _⟩ := h; rfl
  · obtain ⟨x, rfl, hx, k⟩ := h
    refine ⟨_, (pss_one (ps_ret (pe_and (pe_callB call_isi (by rfl) T.isinstance (by decide +kernel) (pa_cons (pv 0) (pa_cons (pe_bltn (v := .ty "int") (by rfl) T.int (by decide +kernel) rfl) pa_nil))) (pe_one (pe_not (pe_callB call_isi (by rfl) T.isinstance (by decide +kernel) (pa_cons (pv 0) (pa_cons (pe_bltn (v := .ty "bool") (by rfl) T.bool (by decide +kernel) rfl) pa_nil)))))))), ?_⟩
    cases hx <;> (walk_at "go"; exact k)
theorem ok_law_is_int (T : Txt P K mg a) : FnOk P w K mg base CX0 1 a._law_is_int.f a._law_is_int.fd ["_law_told"] spIsInt := by
  have sc : FnScope ["_law_told"] ["_law_told"] (defScope (top 15)) := ⟨rfl, rfl, rfl, by decide +kernel, rfl, by decide +kernel, by decide +kernel⟩
  refine T._law_is_int.ok sc (fun vs H Q E h => ?_) (fun cdv A outer s H vs Q E hr h => ?_)
  · obtain ⟨x, rfl, _⟩ := h; rfl
  · obtain ⟨x, rfl, hx, k⟩ := h
    refine ⟨_, (pss_one (ps_ret (pe_and (pe_callB call_isi (by rfl) T.isinstance (by decide +kernel) (pa_cons (pv 0) (pa_cons (pe_bltn (v := .ty "int") (by rfl) T.int (by decide +kernel) rfl) pa_nil))) (pe_one (pe_not (pe_callB call_isi (by rfl) T.isinstance (by decide +kernel) (pa_cons (pv 0) (pa_cons (pe_bltn (v := .ty "bool") (by rfl) T.bool (by decide +kernel) rfl) pa_nil)))))))), ?_⟩
    cases hx <;> (walk_at "go"; exact k)
def spWithin : Sp := fun vs H Q _ => ∃ (x : V) (l m : Int), vs = [x, .int l, .int m] ∧ Th H x ∧ Q (.bl (withinV x l m)) H
theorem ok_within (T : Txt P K mg a) : FnOk P w K mg base CX0 2 a.is_int_within.f a.is_int_within.fd ["thing", "least", "most"] spWithin := by
  have G_is_int : FnOk P w K mg base CX0 1 a.is_int.f a.is_int.fd ["thing"] spIsInt := ok_is_int T
  have sc : FnScope ["thing", "least", "most"] ["thing", "least", "most"] (defScope (top 2)) := ⟨rfl, rfl, rfl, by decide +kernel, rfl, by decide +kernel, by decide +kernel⟩
  refine T.is_int_within.ok sc (fun vs H Q E h => ?_) (fun cdv A outer s H vs Q E hr h => ?_)
  · obtain ⟨x, l, m, rfl, _⟩ := h; rfl
  · obtain ⟨x, l, m, rfl, hx, k⟩ := h
    refine ⟨_, (pss_one (ps_ret (pe_and (pe_call G_is_int (hr.mono (by first | decide | omega)) rfl T.is_int.mg T.is_int.kp T.is_int.b .nil pass0 (pa_cons (pv 0) pa_nil)) (pe_one (pe_chain op_le op_le (pv 1) (pv 0) (pv 2)))))), ?_⟩
    walk_at "go"
    refine ⟨x, rfl, hx, _, rfl, ?_⟩
    cases hx with
    | int i =>
      refine i_yes rfl ⟨_, rfl, _, rfl, _, _, rfl, rfl, _, rfl, ?_⟩
      refine i_itd (fun h1 => ?_) (fun h1 => ?_)
      · refine ⟨_, rfl, _, _, rfl, rfl, ?_⟩
        have e : withinV (.int i) l m = decide (i ≤ m) := by
          show (decide (l ≤ i) && decide (i ≤ m)) = _
          rw [decide_eq_true h1]; rfl
        rw [e] at k
        exact k
      · have e : withinV (.int i) l m = false := by
          show (decide (l ≤ i) && decide (i ≤ m)) = _
          rw [decide_eq_false h1]; rfl
        rw [e] at k
        exact k
    | _ => exact i_no rfl k
def spBits : Sp := fun vs H Q _ => ∃ x, vs = [x] ∧ Th H x ∧ Sh x ∧ Q (.bl (bitsV x)) H
theorem ok_bits (T : Txt P K mg a) : FnOk P w K mg base CX0 1 a.is_bits.f a.is_bits.fd ["thing"] spBits := by
  have sc : FnScope ["thing"] ["thing"] (defScope (top 3)) := ⟨rfl, rfl, rfl, by decide +kernel, rfl, by decide +kernel, by decide +kernel⟩
  refine T.is_bits.ok sc (fun vs H Q E h => ?_) (fun cdv A outer s H vs Q E hr h => ?_)
  · obtain ⟨x, rfl, _⟩ := h
    rfl
  · obtain ⟨x, rfl, hx, hz, k⟩ := h
    refine ⟨_, (pss_one (ps_ret (pe_and (pe_callB call_isi (by rfl) T.isinstance (by decide +kernel) (pa_cons (pv 0) (pa_cons (pe_bltn (v := .ty "str") (by rfl) T.str (by decide +kernel) rfl) pa_nil))) (pe_one (pe_cmpR op_eq (pe_m1 F.slot_str_strip F.type_str_strip mt_stripChars (pv 0) pe_str rfl rfl rfl) pe_str (nomark _)))))), ?_⟩
    cases hx with
    | str z =>
      walk_at "go"
      refine i_m1 ?_
      walk_at "go"
      refine ⟨⟨_, rfl⟩, _, _, rfl, rfl, Nat.le_trans (hz z rfl) (by decide), ?_⟩
      walk_at "go"
      have e := strip01 z
      have k : Q (V.bl (bitsS z)) H := k
      rw [← e] at k
      exact k
    | _ => (walk_at "go"; exact k)
def spOne : Sp := fun vs H Q _ => ∃ x, vs = [x] ∧ Th H x ∧ Sh x ∧ Q (.bl (oneV x)) H
theorem ok_one (T : Txt P K mg a) : FnOk P w K mg base CX0 2 a.is_one_bit.f a.is_one_bit.fd ["thing"] spOne := by
  have G_is_bits : FnOk P w K mg base CX0 1 a.is_bits.f a.is_bits.fd ["thing"] spBits := ok_bits T
  have sc : FnScope ["thing"] ["thing"] (defScope (top 4)) := ⟨rfl, rfl, rfl, by decide +kernel, rfl, by decide +kernel, by decide +kernel⟩
  refine T.is_one_bit.ok sc (fun vs H Q E h => ?_) (fun cdv A outer s H vs Q E hr h => ?_)
  · obtain ⟨x, rfl, _⟩ := h
    rfl
  · obtain ⟨x, rfl, hx, hz, k⟩ := h
    refine ⟨_, (pss_one (ps_ret (pe_and (pe_call G_is_bits (hr.mono (by first | decide | omega)) rfl T.is_bits.mg T.is_bits.kp T.is_bits.b .nil pass0 (pa_cons (pv 0) pa_nil)) (pe_one (pe_cmpR op_eq (pe_callB call_len_str (by rfl) T.len PySem.boot_len (pa_cons (pv 0) pa_nil)) pe_int (nomark _)))))), ?_⟩
    walk_at "go"
    refine ⟨x, rfl, hx, hz, ?_⟩
    cases hx with
    | str z =>
      refine ⟨_, rfl, ?_⟩
      have kk : Q (V.bl (bitsS z && decide (z.length = 1))) H := k
      refine i_itb (fun h => ?_) (fun h => ?_)
      · have h : bitsS z = true := h
        rw [h, Bool.true_and] at kk
        walk_at "go"
        refine ⟨z, rfl, Nat.le_trans (hz z rfl) (by decide), ?_⟩
        walk_at "go"
        have e : decide (V.int (z.length : Int) = V.int 1) = decide (z.length = 1) := by
          by_cases q : z.length = 1
          · rw [decide_eq_true q, q]; exact decide_eq_true rfl
          · rw [decide_eq_false q]; exact decide_eq_false fun e => q (by have := V.int.inj e; omega)
        rw [e]
        exact kk
      · have h : bitsS z = false := h
        rw [h, Bool.false_and] at kk
        exact kk
    | _ => exact ⟨_, rfl, i_no rfl k⟩
end
end Me
set_option maxHeartbeats 8000000
namespace Me
open PySem L2


theorem atI_some {α : Type} {xs : List α} {i : Int} (h0 : 0 ≤ i) (h1 : i < (xs.length : Int)) : ∃ v, atI xs i = some v := by
  obtain ⟨j, rfl⟩ := Int.eq_ofNat_of_zero_le h0
  have hj : j < xs.length := by omega
  exact ⟨xs[j], atI_nat (List.getElem?_eq_getElem hj)⟩
section
variable {σ : L2.St} {H : Hp} {Q : VK} {a b : Nat} {z : Str} {i : Int}
theorem i_slT (ha : σ[a]? = some (some (.str z))) (hb : σ[b]? = some (some (.int i))) (lz : z.length ≤ 9000) (q : Q (.str (cutS z none (some i))) H) : tSl rSlS (tVar a) tNoPart (tPart (tVar b)) σ H Q :=
  ⟨_, ha, _, hb, _, rfl, z, rfl, Nat.le_trans lz (by decide), q⟩
theorem i_slF (ha : σ[a]? = some (some (.str z))) (hb : σ[b]? = some (some (.int i))) (lz : z.length ≤ 9000) (q : Q (.str (cutS z (some i) none)) H) : tSl rSlS (tVar a) (tPart (tVar b)) tNoPart σ H Q :=
  ⟨_, ha, _, hb, _, rfl, z, rfl, Nat.le_trans lz (by decide), q⟩
theorem i_slF1 (ha : σ[a]? = some (some (.str z))) (hb : σ[b]? = some (some (.int i))) (lz : z.length ≤ 9000) (q : Q (.str (cutS z (some (i + 1)) none)) H) : tSl rSlS (tVar a) (tPart (tOp (rI0 fun i j => V.int (i + j)) (tVar b) (tC (V.int 1)))) tNoPart σ H Q :=
  ⟨_, ha, _, hb, _, _, rfl, rfl, _, rfl, z, rfl, Nat.le_trans lz (by decide), q⟩
end
/-! ### what is done with bits -/
def flipS (c : Nat) : Str := if V.str ⟨#[c]⟩ = V.str "0" then "1" else "0"
def turnS (z : Str) (i : Int) (c : Nat) : Str := cutS z none (some i) ++ flipS c ++ cutS z (some (i + 1)) none
def dropS (z : Str) (i : Int) : Str := cutS z none (some i) ++ cutS z (some (i + 1)) none
def putS (z : Str) (i : Int) (b : Str) : Str := cutS z none (some i) ++ b ++ cutS z (some i) none
theorem cut_le {z : Str} {n : Nat} (h : z.length ≤ n) (lo hi : Option Int) : (cutS z lo hi).length ≤ n := Nat.le_trans (cutS_length z lo hi) h
theorem flip_len (c : Nat) : (flipS c).length = 1 := by
  unfold flipS
  by_cases h : V.str ⟨#[c]⟩ = V.str "0"
  · rw [if_pos h]; decide
  · rw [if_neg h]; decide
/-- NoBits, BadNumber("at"), or it goes on -/
def chk (C : Nat → Addr) (x y : V) (l : Int) (E : XK) (ok : Str → Int → Prop) (H : Hp) : Prop :=
  if bitsV x = true then ∀ z, x = .str z → if withinV y 0 ((z.length : Int) - l) = true then ∀ i, y = .int i → ok z i else ∀ d, H d = none → E (.ref (C 1)) (some d) (upd H d (.xd [("part", .str "at")]))
  else E (.ref (C 0)) none H
theorem within_int {y : V} {l m : Int} (h : withinV y l m = true) : ∃ i, y = .int i ∧ l ≤ i ∧ i ≤ m := by
  cases y with
  | int i =>
    have h : (decide (l ≤ i) && decide (i ≤ m)) = true := h
    obtain ⟨h1, h2⟩ := Bool.and_eq_true_iff.mp h
    exact ⟨i, rfl, of_decide_eq_true h1, of_decide_eq_true h2⟩
  | _ => cases h
theorem bits_str {x : V} (h : bitsV x = true) : ∃ z, x = .str z ∧ bitsS z = true := by
  cases x with
  | str z => exact ⟨z, rfl, h⟩
  | _ => cases h
section
variable {P : Program} {w : World} {K : PySem.W.Frag} {mg : Str → Option Value} {base : Heap} {a : Ad}
theorem ok_ini (T : Txt P K mg a) : FnOk P w K mg base CX0 1 (a.I 1).f (a.I 1).fd (["self", "part"] : List Str) (spI1 (a.C 1) "part") :=
  ini1 (T.er 1 (by decide)) rfl ⟨rfl, rfl, rfl, by decide +kernel, rfl, by decide +kernel, by decide +kernel⟩ fun _ _ _ _ _ _ => pss_one (ps_ost (pv 0) (pv 1))
def spChk (C : Nat → Addr) : Sp := fun vs H Q E => ∃ (x y : V) (l : Int), vs = [x, y, .int l] ∧ Th H x ∧ Sh x ∧ Th H y ∧ chk C x y l E (fun _ _ => Q .non H) H
theorem ok_chk (T : Txt P K mg a) : FnOk P w K mg base (L2.CX P w) 3 a.check_place.f a.check_place.fd ["bits", "at", "least_behind"] (spChk a.C) := by
  have G_is_bits : FnOk P w K mg base CX0 1 a.is_bits.f a.is_bits.fd ["thing"] spBits := ok_bits T
  have G_is_int_within : FnOk P w K mg base CX0 2 a.is_int_within.f a.is_int_within.fd ["thing", "least", "most"] spWithin := ok_within T
  have sc : FnScope ["bits", "at", "least_behind"] ["bits", "at", "least_behind"] (defScope (top 13)) := ⟨rfl, rfl, rfl, by decide +kernel, rfl, by decide +kernel, by decide +kernel⟩
  refine T.check_place.okX sc (fun vs H Q E h => ?_) (fun cdv A outer s H vs Q E hr h => ?_)
  · obtain ⟨x, y, l, rfl, _⟩ := h
    rfl
  · obtain ⟨x, y, l, rfl, hx, sx, hy, k⟩ := h
    have tk : Takes (cxOf (L2.CX P w) P w K mg base ["bits", "at", "least_behind"] "check_place" (defScope (top 13)) a.check_place.f cdv A outer s H E) (fun cls d _ H => E cls d H) := takes_of rfl rfl rfl rfl
    refine ⟨_, (pss_cons (ps_if (pt_not (pt_val (pe_call G_is_bits (hr.mono (by first | decide | omega)) rfl T.is_bits.mg T.is_bits.kp T.is_bits.b .nil pass0 (pa_cons (pv 0) pa_nil))))
      (pss_one (ps_thr0 (T.er 0 (by decide)) rfl rfl rfl (hr.mono (by decide)) tk rfl))
      pss_nil)
      (pss_one (ps_if (pt_not (pt_val (pe_call G_is_int_within (hr.mono (by first | decide | omega)) rfl T.is_int_within.mg T.is_int_within.kp T.is_int_within.b .nil pass0 (pa_cons (pv 1) (pa_cons pe_int (pa_cons (pe_op op_sub (pe_callB call_len_str (by rfl) T.len PySem.boot_len (pa_cons (pv 0) pa_nil)) (pv 2)) pa_nil))))))
      (pss_one (ps_thr1 (T.er 1 (by decide)) rfl rfl rfl (ok_ini T) (hr.mono (by decide)) tk pe_str rfl))
      pss_nil))), ?_⟩
    walk_at "go"
    refine ⟨x, rfl, hx, sx, ?_⟩
    walk_at "go"
    unfold chk at k
    cases e : bitsV x with
    | false =>
      rw [e, if_neg Bool.false_ne_true] at k
      refine i_yes rfl ?_
      exact k
    | true =>
      rw [e, if_pos rfl] at k
      refine i_no rfl ?_
      obtain ⟨z, rfl, hz⟩ := bits_str e
      have k := k z rfl
      walk_at "go"
      refine ⟨z, rfl, Nat.le_trans (sx z rfl) (by decide), ?_⟩
      walk_at "go"
      refine ⟨y, _, _, rfl, hy, ?_⟩
      walk_at "go"
      cases e2 : withinV y 0 ((z.length : Int) - l) with
      | false =>
        rw [e2, if_neg Bool.false_ne_true] at k
        refine i_yes rfl ?_
        exact k
      | true =>
        rw [e2, if_pos rfl] at k
        obtain ⟨i, rfl, _, _⟩ := within_int e2
        refine i_no rfl ?_
        exact k i rfl
def spTurn (C : Nat → Addr) : Sp := fun vs H Q E => ∃ (x y : V), vs = [x, y] ∧ Th H x ∧ Sh x ∧ Th H y ∧ chk C x y 1 E (fun z i => ∀ c, atI z.cps.toList i = some c → Q (.str (turnS z i c)) H) H
theorem ok_turned (T : Txt P K mg a) : FnOk P w K mg base (L2.CX P w) 4 a.turned.f a.turned.fd ["bits", "at"] (spTurn a.C) := by
  have GC : FnOk P w K mg base (L2.CX P w) 3 a.check_place.f a.check_place.fd ["bits", "at", "least_behind"] (spChk a.C) := ok_chk T
  have sc : FnScope ["bits", "at"] ["bits", "at"] (defScope (top 10)) := ⟨rfl, rfl, rfl, by decide +kernel, rfl, by decide +kernel, by decide +kernel⟩
  refine T.turned.okX sc (fun vs H Q E h => ?_) (fun cdv A outer s H vs Q E hr h => ?_)
  · obtain ⟨x, y, rfl, _⟩ := h
    rfl
  · obtain ⟨x, y, rfl, hx, sx, hy, k⟩ := h
    have tk : Takes (cxOf (L2.CX P w) P w K mg base ["bits", "at"] "turned" (defScope (top 10)) a.turned.f cdv A outer s H E) (fun cls d _ H => E cls d H) := takes_of rfl rfl rfl rfl
    refine ⟨_, (pss_cons (ps_expr (pe_call GC (hr.mono (by decide)) rfl T.check_place.mg T.check_place.kp T.check_place.b .nil (passes_call tk (fun _ _ _ _ h => h)) (pa_cons (pv 0) (pa_cons (pv 1) (pa_cons pe_int pa_nil)))))
      (pss_one (ps_ret (pe_op op_add_str (pe_op op_add_str (pe_slice sl_str (pv 0) po_none (po_some (pv 1))) (pe_ifExp (pt_cmpR op_eq (pe_ix ix_str (pv 0) (pv 1) (fun _ _ => rfl)) pe_str (nomark _)) pe_str pe_str)) (pe_slice sl_str (pv 0) (po_some (pe_op op_add (pv 1) pe_int)) po_none))))), ?_⟩
    walk_at "go"
    refine ⟨x, y, 1, rfl, hx, sx, hy, ?_⟩
    unfold chk at k ⊢
    cases e : bitsV x with
    | false => rw [e, if_neg Bool.false_ne_true] at k; exact k
    | true =>
      rw [e, if_pos rfl] at k
      rw [if_pos rfl]
      obtain ⟨z, rfl, hz⟩ := bits_str e
      have k := k z rfl
      intro z' ez
      cases ez
      cases e2 : withinV y 0 ((z.length : Int) - 1) with
      | false => rw [e2, if_neg Bool.false_ne_true] at k; exact k
      | true =>
        rw [e2, if_pos rfl] at k
        rw [if_pos rfl]
        obtain ⟨i, rfl, h0, h1⟩ := within_int e2
        have k := k i rfl
        intro i' ei
        cases ei
        have lz := sx z rfl
        have ln : z.cps.toList.length = z.length := by simp [Str.length]
        obtain ⟨c, hc⟩ := atI_some (xs := z.cps.toList) h0 (by omega)
        have k := k c hc
        have a1 := cut_le lz none (some i)
        have a2 := cut_le lz (some (i + 1)) none
        have fl := flip_len c
        walk_at "go"
        refine i_slT rfl rfl lz ?_
        walk_at "go"
        refine ⟨z, i, c, rfl, rfl, Nat.le_trans lz (by decide), hc, ?_⟩
        walk_at "go"
        refine i_itd (fun h => ?_) (fun h => ?_)
        · have ef : flipS c = "1" := by unfold flipS; rw [if_pos h]
          rw [ef] at fl
          unfold turnS at k
          rw [ef] at k
          walk_at "go"
          refine ⟨_, _, rfl, rfl, ?_, ?_⟩
          · exact Nat.le_trans (Nat.add_le_add a1 (Nat.le_refl 1)) (by decide)
          refine i_slF1 rfl rfl lz ?_
          refine ⟨_, _, rfl, rfl, ?_, k⟩
          rw [PySem.Str.length_append]
          exact Nat.le_trans (Nat.add_le_add (Nat.add_le_add a1 (Nat.le_refl 1)) a2) (by decide)
        · have ef : flipS c = "0" := by unfold flipS; rw [if_neg h]
          unfold turnS at k
          rw [ef] at k
          walk_at "go"
          refine ⟨_, _, rfl, rfl, ?_, ?_⟩
          · exact Nat.le_trans (Nat.add_le_add a1 (Nat.le_refl 1)) (by decide)
          refine i_slF1 rfl rfl lz ?_
          refine ⟨_, _, rfl, rfl, ?_, k⟩
          rw [PySem.Str.length_append]
          exact Nat.le_trans (Nat.add_le_add (Nat.add_le_add a1 (Nat.le_refl 1)) a2) (by decide)
def spDrop (C : Nat → Addr) : Sp := fun vs H Q E => ∃ (x y : V), vs = [x, y] ∧ Th H x ∧ Sh x ∧ Th H y ∧ chk C x y 1 E (fun z i => Q (.str (dropS z i)) H) H
theorem ok_dropped (T : Txt P K mg a) : FnOk P w K mg base (L2.CX P w) 4 a.dropped.f a.dropped.fd ["bits", "at"] (spDrop a.C) := by
  have GC : FnOk P w K mg base (L2.CX P w) 3 a.check_place.f a.check_place.fd ["bits", "at", "least_behind"] (spChk a.C) := ok_chk T
  have sc : FnScope ["bits", "at"] ["bits", "at"] (defScope (top 11)) := ⟨rfl, rfl, rfl, by decide +kernel, rfl, by decide +kernel, by decide +kernel⟩
  refine T.dropped.okX sc (fun vs H Q E h => ?_) (fun cdv A outer s H vs Q E hr h => ?_)
  · obtain ⟨x, y, rfl, _⟩ := h
    rfl
  · obtain ⟨x, y, rfl, hx, sx, hy, k⟩ := h
    have tk : Takes (cxOf (L2.CX P w) P w K mg base ["bits", "at"] "dropped" (defScope (top 11)) a.dropped.f cdv A outer s H E) (fun cls d _ H => E cls d H) := takes_of rfl rfl rfl rfl
    refine ⟨_, (pss_cons (ps_expr (pe_call GC (hr.mono (by decide)) rfl T.check_place.mg T.check_place.kp T.check_place.b .nil (passes_call tk (fun _ _ _ _ h => h)) (pa_cons (pv 0) (pa_cons (pv 1) (pa_cons pe_int pa_nil)))))
      (pss_one (ps_ret (pe_op op_add_str (pe_slice sl_str (pv 0) po_none (po_some (pv 1))) (pe_slice sl_str (pv 0) (po_some (pe_op op_add (pv 1) pe_int)) po_none))))), ?_⟩
    walk_at "go"
    refine ⟨x, y, 1, rfl, hx, sx, hy, ?_⟩
    unfold chk at k ⊢
    cases e : bitsV x with
    | false => rw [e, if_neg Bool.false_ne_true] at k; exact k
    | true =>
      rw [e, if_pos rfl] at k
      rw [if_pos rfl]
      obtain ⟨z, rfl, hz⟩ := bits_str e
      have k := k z rfl
      intro z' ez
      cases ez
      cases e2 : withinV y 0 ((z.length : Int) - 1) with
      | false => rw [e2, if_neg Bool.false_ne_true] at k; exact k
      | true =>
        rw [e2, if_pos rfl] at k
        rw [if_pos rfl]
        obtain ⟨i, rfl, h0, h1⟩ := within_int e2
        have k := k i rfl
        intro i' ei
        cases ei
        have lz := sx z rfl
        have a1 := cut_le lz none (some i)
        have a2 := cut_le lz (some (i + 1)) none
        walk_at "go"
        refine i_slT rfl rfl lz ?_
        walk_at "go"
        refine i_slF1 rfl rfl lz ?_
        exact ⟨_, _, rfl, rfl, Nat.le_trans (Nat.add_le_add a1 a2) (by decide), k⟩
def spPut (C : Nat → Addr) : Sp := fun vs H Q E => ∃ (x y u : V), vs = [x, y, u] ∧ Th H x ∧ Sh x ∧ Th H y ∧ Th H u ∧ Sh u ∧ chk C x y 0 E (fun z i => if oneV u = true then ∀ b, u = .str b → Q (.str (putS z i b)) H else E (.ref (C 0)) none H) H
theorem ok_put (T : Txt P K mg a) : FnOk P w K mg base (L2.CX P w) 4 a.put.f a.put.fd ["bits", "at", "bit"] (spPut a.C) := by
  have GC : FnOk P w K mg base (L2.CX P w) 3 a.check_place.f a.check_place.fd ["bits", "at", "least_behind"] (spChk a.C) := ok_chk T
  have G_is_one_bit : FnOk P w K mg base CX0 2 a.is_one_bit.f a.is_one_bit.fd ["thing"] spOne := ok_one T
  have sc : FnScope ["bits", "at", "bit"] ["bits", "at", "bit"] (defScope (top 12)) := ⟨rfl, rfl, rfl, by decide +kernel, rfl, by decide +kernel, by decide +kernel⟩
  refine T.put.okX sc (fun vs H Q E h => ?_) (fun cdv A outer s H vs Q E hr h => ?_)
  · obtain ⟨x, y, u, rfl, _⟩ := h
    rfl
  · obtain ⟨x, y, u, rfl, hx, sx, hy, hu, su, k⟩ := h
    have tk : Takes (cxOf (L2.CX P w) P w K mg base ["bits", "at", "bit"] "put" (defScope (top 12)) a.put.f cdv A outer s H E) (fun cls d _ H => E cls d H) := takes_of rfl rfl rfl rfl
    refine ⟨_, (pss_cons (ps_expr (pe_call GC (hr.mono (by decide)) rfl T.check_place.mg T.check_place.kp T.check_place.b .nil (passes_call tk (fun _ _ _ _ h => h)) (pa_cons (pv 0) (pa_cons (pv 1) (pa_cons pe_int pa_nil)))))
      (pss_cons (ps_if (pt_not (pt_val (pe_call G_is_one_bit (hr.mono (by first | decide | omega)) rfl T.is_one_bit.mg T.is_one_bit.kp T.is_one_bit.b .nil pass0 (pa_cons (pv 2) pa_nil))))
      (pss_one (ps_thr0 (T.er 0 (by decide)) rfl rfl rfl (hr.mono (by decide)) tk rfl))
      pss_nil)
      (pss_one (ps_ret (pe_op op_add_str (pe_op op_add_str (pe_slice sl_str (pv 0) po_none (po_some (pv 1))) (pv 2)) (pe_slice sl_str (pv 0) (po_some (pv 1)) po_none)))))), ?_⟩
    walk_at "go"
    refine ⟨x, y, 0, rfl, hx, sx, hy, ?_⟩
    unfold chk at k ⊢
    cases e : bitsV x with
    | false => rw [e, if_neg Bool.false_ne_true] at k; exact k
    | true =>
      rw [e, if_pos rfl] at k
      rw [if_pos rfl]
      obtain ⟨z, rfl, hz⟩ := bits_str e
      have k := k z rfl
      intro z' ez
      cases ez
      cases e2 : withinV y 0 ((z.length : Int) - 0) with
      | false => rw [e2, if_neg Bool.false_ne_true] at k; exact k
      | true =>
        rw [e2, if_pos rfl] at k
        rw [if_pos rfl]
        obtain ⟨i, rfl, h0, h1⟩ := within_int e2
        have k := k i rfl
        intro i' ei
        cases ei
        have lz := sx z rfl
        have a1 := cut_le lz none (some i)
        have a2 := cut_le lz (some i) none
        walk_at "go"
        refine ⟨u, rfl, hu, su, ?_⟩
        walk_at "go"
        cases e3 : oneV u with
        | false =>
          rw [e3, if_neg Bool.false_ne_true] at k
          refine i_yes rfl ?_
          exact k
        | true =>
          rw [e3, if_pos rfl] at k
          refine i_no rfl ?_
          obtain ⟨b, rfl⟩ : ∃ b, u = .str b := by
            cases u with
            | str b => exact ⟨b, rfl⟩
            | _ => cases e3
          have k := k b rfl
          have lb := su b rfl
          walk_at "go"
          refine i_slT rfl rfl lz ?_
          walk_at "go"
          refine ⟨_, _, rfl, rfl, Nat.le_trans (Nat.add_le_add a1 lb) (by decide), ?_⟩
          refine i_slF rfl rfl lz ?_
          refine ⟨_, _, rfl, rfl, ?_, k⟩
          rw [PySem.Str.length_append]
          exact Nat.le_trans (Nat.add_le_add (Nat.add_le_add a1 lb) a2) (by decide)
end
end Me
set_option maxHeartbeats 8000000
namespace Me
open PySem L2


abbrev NO : List Str := ["_law_call", "_law_value", "e"]
/-- what the law makes of an error that leaves the lambda -/
def EO (C : Nat → Addr) (Q : VK) : XK := fun cls d H => (cls = .ref (C 0) ∧ d = none ∧ ∀ t, H t = none → Q (.ref t) (upd H t (.tup [.str "none", .bl true]))) ∨
  (cls = .ref (C 1) ∧ ∃ dd v, d = some dd ∧ H dd = some (.xd [("part", v)]) ∧ ∀ t, H t = none → Q (.ref t) (upd H t (.tup [.str "number", v, .bl true])))
def TTo (C : Nat → Addr) : (XK → Hp → VK → Prop) → Hp → VK → Prop := fun tl H Q => ∀ R : VK, (∀ v H', (∀ t, H' t = none → Q (.ref t) (upd H' t (.tup [.str "told", v]))) → R v H') → tl (EO C Q) H R
theorem takes_len {X : Cx} {W : WX} (t : Takes X W) : Takes X (fun cls d σ H => σ.length = X.N.length → W cls d σ H) := fun u s' ⟨a, B, sI, pins, σ, H, cls, d, e, I, nb, up, sky, na, os, ag, w⟩ =>
  t u s' ⟨a, B, sI, pins, σ, H, cls, d, e, I, nb, up, sky, na, os, ag, w I.len⟩
theorem len3 {σ : L2.St} (h : σ.length = 3) : ∃ x y z, σ = [x, y, z] := by
  match σ, h with
  | [x, y, z], _ => exact ⟨x, y, z, rfl⟩
/-- what the law makes of a caught error -/
def tS0 (K : PySem.W.Frag) (rm : Addr) (C : Nat → Addr) (i : Nat) (a : Addr) (d : Option Addr) : TS := tRet (tTup (tCons (tC (.str "none")) (tCons (tAndV (tCB (rIsP K a (C i) d) (tCons (tVar 2) (tCons (tC (.ref rm)) tNil))) (tNotV (tCB (rIsP K a (C i) d) (tCons (tVar 2) (tCons (tC (.ref (C 1))) tNil))))) tNil)))
def tS1 (K : PySem.W.Frag) (rm : Addr) (C : Nat → Addr) (i : Nat) (a : Addr) (d : Option Addr) : TS := tRet (tTup (tCons (tC (.str "number")) (tCons (tXp a d "part" (tVar 2)) (tCons (tAndV (tCB (rIsP K a (C i) d) (tCons (tVar 2) (tCons (tC (.ref rm)) tNil))) (tNotV (tCB (rIsP K a (C i) d) (tCons (tVar 2) (tCons (tC (.ref (C 0))) tNil))))) tNil))))
def tsO (C : Nat → Addr) (tS : Nat → Addr → Option Addr → TS) : Addr → Value → Option Addr → TS := fun a cls d D σ H => ∃ i, i < 2 ∧ cls = .ref (C i) ∧ ∀ oe : Obj, Zc cls d oe → (∃ vs, oe.data = .fields vs) → tS i a d D σ H
theorem i_xp {a dd : Addr} {d : Option Addr} {f : Str} {v : V} {fs : List (Str × V)} {i : Nat} {σ : L2.St} {H : Hp} {Q : VK} (e : σ[i]? = some (some (.ref a))) (ed : d = some dd) (h : H dd = some (.xd fs)) (l : fs.lookup f = some v) (q : Q v H) : tXp a d f (tVar i) σ H Q := ⟨_, e, rfl, dd, fs, v, ed, h, l, q⟩
section
variable {X : Cx} {a : Ad}
theorem outcome_gives (T : Txt X.prog X.K X.mg a) {q : Str} {g : Addr} {cdg : Value} : LamX.GivesTo X NO "_law_outcome" (defScope (top 21)) g cdg (defBody (top 21)) "_law_call" q (TTo a.C) := by
  intro f c' s H Q tl act hc h
  have sc : FnScope ["_law_call", "_law_value", "e"] ["_law_call"] (defScope (top 21)) := ⟨rfl, rfl, rfl, by decide +kernel, rfl, by decide +kernel, by decide +kernel⟩
  refine ⟨_, pss_cons (ps_try_manyA (X := (cxOf C8.CX0 X.prog X.w X.K X.mg X.base NO "_law_outcome" (defScope (top 21)) g cdg X.A X.stack s H C8.E0).nox)
      (tb := fun W D σ H => ∃ Ech : XK, (∀ cls d σ' H', Ech cls d H' → σ'.length = 3 → W cls d σ' H') ∧ σ[0]? = some (some (.ref f)) ∧ H c' = some (LamX.CodeO c' q) ∧ tl Ech H (fun v H' => D.nx (σ.set 1 (some v)) H'))
      (Wout := fun _ _ _ _ => False) rfl rfl sc.nd LamX.takes0 (fun W pn xe tk _ => ?body)
      (HdsA.cons (i := 2) (ts := tsO a.C (tS0 X.K a.rm a.C)) rfl rfl ⟨rfl, by decide, Or.inl (T.er 0 (by decide)).gl⟩ (fun e oe cls d pn hz hf => ?su0)
        (HdsA.cons (i := 2) (ts := tsO a.C (tS1 X.K a.rm a.C)) rfl rfl ⟨rfl, by decide, Or.inl (T.er 1 (by decide)).gl⟩ (fun e oe cls d pn hz hf => ?su1) .nil)))
      (pss_one (ps_ret (pe_tup (pa_cons pe_str (pa_cons (pv 1) pa_nil))))), ?_⟩
  case body =>
    refine ⟨fun pins s' σ H' D I h' => ?_⟩
    obtain ⟨Ech, hW, h1, h2, h3⟩ := h'
    have hp := fun p1 p2 => act _ pn xe Ech p1 p2 (takes_len tk) hW
    exact (pss_one (ps_set (i := 1) sc.nd rfl (Or.inl rfl) (hp _ _))).run pins s' σ H' D I ⟨h1, h2, h3⟩
  case su0 =>
    refine ⟨fun pins s1 σ1 H1 D1 I1 h1 => ?_⟩
    obtain ⟨i, hi, ec, kk⟩ := h1
    subst ec
    refine PSs.run (t := tS0 X.K a.rm a.C i e d) ?_ pins s1 σ1 H1 D1 I1 (kk oe hz hf)
    exact pss_one (ps_ret (pe_tup (pa_cons pe_str (pa_cons (pe_and (pe_callB (call_isP (T.er i hi).is List.mem_cons_self hz hf) (by rfl) T.isinstance (by decide +kernel) (pa_cons (pv 2) (pa_cons (pe_glob (v := .ref a.rm) rfl T.rm rfl) pa_nil)))
      (pe_one (pe_not (pe_callB (call_isP (T.er i hi).is List.mem_cons_self hz hf) (by rfl) T.isinstance (by decide +kernel) (pa_cons (pv 2) (pa_cons (pe_glob (v := .ref (a.C 1)) rfl (T.er 1 (by decide)).gl rfl) pa_nil)))))) pa_nil))))
  case su1 =>
    refine ⟨fun pins s1 σ1 H1 D1 I1 h1 => ?_⟩
    obtain ⟨i, hi, ec, kk⟩ := h1
    subst ec
    refine PSs.run (t := tS1 X.K a.rm a.C i e d) ?_ pins s1 σ1 H1 D1 I1 (kk oe hz hf)
    exact pss_one (ps_ret (pe_tup (pa_cons pe_str (pa_cons (pe_xP (T.er i hi).is ((T.er i hi).noA "part" (by decide)) List.mem_cons_self hz hf (pv 2)) (pa_cons (pe_and (pe_callB (call_isP (T.er i hi).is List.mem_cons_self hz hf) (by rfl) T.isinstance (by decide +kernel) (pa_cons (pv 2) (pa_cons (pe_glob (v := .ref a.rm) rfl T.rm rfl) pa_nil)))
      (pe_one (pe_not (pe_callB (call_isP (T.er i hi).is List.mem_cons_self hz hf) (by rfl) T.isinstance (by decide +kernel) (pa_cons (pv 2) (pa_cons (pe_glob (v := .ref (a.C 0)) rfl (T.er 0 (by decide)).gl rfl) pa_nil)))))) pa_nil)))))
  · refine ⟨EO a.C Q, fun cls d σ' H' he hl => ?_, rfl, hc, ?_⟩
    · obtain ⟨s0, s1, s2, rfl⟩ := len3 hl
      rcases he with ⟨rfl, rfl, k⟩ | ⟨rfl, dd, v, rfl, hd, k⟩
      · refine ⟨_, (T.er 0 (by decide)).ex 0 (by decide), fun _ e0 ne => ⟨0, by decide, rfl, fun oe hz hf => ?_⟩, fun z => Bool.noConfusion z⟩
        unfold tS0
        walk_at "go"
        refine ⟨_, _, _, rfl, .own _, (T.er 0 (by decide)).rk, trivial, ?_⟩
        walk_at "go"
        refine ⟨_, _, _, rfl, .own _, (T.er 0 (by decide)).kt 1 (by decide), trivial, ?_⟩
        walk_at "go"
        rename_i t nt
        exact k t nt
      · refine ⟨_, (T.er 1 (by decide)).ex 0 (by decide), fun z => absurd z (by decide), fun _ => ?_⟩
        refine ⟨_, (T.er 1 (by decide)).ex 1 (by decide), fun _ e0 ne => ⟨1, by decide, rfl, fun oe hz hf => ?_⟩, fun z => Bool.noConfusion z⟩
        unfold tS1
        walk_at "go"
        refine i_xp rfl rfl hd rfl ?_
        walk_at "go"
        refine ⟨_, _, _, rfl, .own _, (T.er 1 (by decide)).rk, ⟨_, hd⟩, ?_⟩
        walk_at "go"
        refine ⟨_, _, _, rfl, .own _, (T.er 1 (by decide)).kt 0 (by decide), ⟨_, hd⟩, ?_⟩
        walk_at "go"
        rename_i t nt
        exact k t nt
    · refine h _ fun v H' k => ?_
      walk_at "go"
      rename_i t nt
      exact k t nt
end
end Me
set_option maxHeartbeats 8000000
namespace Me
open PySem L2
theorem same_new {H H' : Hp} {p : Addr} {o : HO} (h : Same H H') (n : H' p = none) : Same H (upd H' p o) := fun b u e => by
  have e1 := h b u e
  rw [upd_ne (ne_of_none e1 n)]; exact e1
theorem same_rfl {H : Hp} : Same H H := fun _ _ e => e
theorem at_ints {ns : List Int} {i : Int} (h0 : 0 ≤ i) (h1 : i < ((ns.map V.int).length : Int)) : ∃ z, atI (ns.map V.int) i = some (V.int z) := by
  obtain ⟨j, rfl⟩ := Int.eq_ofNat_of_zero_le h0
  have hj : j < ns.length := by rw [List.length_map] at h1; omega
  exact ⟨ns[j], atI_nat (by rw [List.getElem?_map, List.getElem?_eq_getElem hj]; rfl)⟩
theorem st_upd {H : Hp} {p L : Addr} {ns : List Int} {i b c : Int} {o : HO} (e : o = .lst [.ref L, .int i, .int b, .int c]) (n : L ≠ p) (hL : H L = some (.lst (ns.map V.int))) (hn : ns.length ≤ 63) (hi : 0 ≤ i) (hb : 0 ≤ b) (hc : 0 ≤ c) (hd : c < 2147483647) : StAt (upd H p o) p L :=
  ⟨ns, i, b, c, by rw [upd_same, e], by rw [upd_ne n]; exact hL, hn, hi, hb, hc, hd⟩
theorem fm {x m : Int} (h : 0 < m) : 0 ≤ x.fmod m ∧ x.fmod m < m := by
  rw [Int.fmod_eq_emod_of_nonneg _ (by omega)]
  exact ⟨Int.emod_nonneg _ (by omega), Int.emod_lt_of_pos _ h⟩
theorem fd {x m : Int} (hx : 0 ≤ x) (h : 0 < m) : 0 ≤ x.fdiv m := by
  rw [Int.fdiv_eq_ediv_of_nonneg _ (by omega)]
  exact Int.ediv_nonneg hx (by omega)
theorem Went.rfl' {p : Addr} {H : Hp} (h : StOk H p) : Went p H H := ⟨h, fun _ _ _ e => e, fun _ e => e⟩
theorem StAt.keep {p L : Addr} {H H' : Hp} (h : StAt H p L) (k : Same H H') : StAt H' p L := by
  obtain ⟨ns, i, b, c, h1, h2, h3⟩ := h
  exact ⟨ns, i, b, c, k _ _ h1, k _ _ h2, h3⟩
theorem StOk.keep {p : Addr} {H H' : Hp} (h : StOk H p) (k : Same H H') : StOk H' p := h.imp fun _ q => q.keep k
theorem Went.new {p q : Addr} {H H' : Hp} {o : HO} (w : Went p H H') (n : H' q = none) : Went p H (upd H' q o) := by
  have k : Same H' (upd H' q o) := fun b u e => by rw [upd_ne (ne_of_none e n)]; exact e
  exact ⟨w.1.keep k, fun a u ne e => k _ _ (w.2.1 a u ne e), fun L e => (w.2.2 L e).keep k⟩
/-- an object that was not there at first is written -/
theorem Went.wr {p q : Addr} {H H' : Hp} {o : HO} (S : StOk H p) (w : Went p H H') (n : H q = none) (nq : q ≠ p) : Went p H (upd H' q o) := by
  obtain ⟨L, hL⟩ := S
  have h' := w.2.2 L hL
  have nL : L ≠ q := by obtain ⟨_, _, _, _, _, e, _⟩ := hL; exact ne_of_none e n
  refine went_mk hL ?_ fun a u ne e => by rw [upd_ne (ne_of_none e n)]; exact w.2.1 a u ne e
  obtain ⟨ns, i, b, c, h1, h2, h3⟩ := h'
  exact ⟨ns, i, b, c, by rw [upd_ne nq.symm]; exact h1, by rw [upd_ne nL]; exact h2, h3⟩
theorem StOk.ne {H : Hp} {p q : Addr} (S : StOk H p) (n : H q = none) : q ≠ p := by
  obtain ⟨L, _, _, _, _, e, _⟩ := S
  exact fun z => by rw [z, e] at n; cases n
theorem Went.none {p q : Addr} {H H' : Hp} (w : Went p H H') (n : H' q = none) (nq : q ≠ p) : H q = none := by
  cases e : H q with
  | none => rfl
  | some o => rw [w.2.1 q o nq e] at n; cases n
theorem at_mem {xs : List V} {i : Int} (h0 : 0 ≤ i) (h1 : i < (xs.length : Int)) : ∃ v, atI xs i = some v ∧ v ∈ xs := by
  obtain ⟨j, rfl⟩ := Int.eq_ofNat_of_zero_le h0
  have hj : j < xs.length := by omega
  exact ⟨xs[j], atI_nat (List.getElem?_eq_getElem hj), List.getElem_mem hj⟩


section
variable {P : Program} {w : World} {K : PySem.W.Frag} {mg : Str → Option Value} {base : Heap} {a : Ad}
def spPull : Sp := fun vs H Q _ => ∃ (p : Addr) (m : Int), vs = [.ref p, .int m] ∧ StOk H p ∧ 0 < m ∧ m ≤ 1000000000000000000000000000000 ∧ ∀ (r : Int) (H' : Hp), 0 ≤ r → r < m → Went p H H' → Q (.int r) H'
theorem ok_pull (T : Txt P K mg a) : FnOk P w K mg base CX0 1 a._law_pull.f a._law_pull.fd ["_law_state", "_law_many"] spPull := by
  have sc : FnScope ["_law_state", "_law_many", "_law_cell", "_law_number"] ["_law_state", "_law_many"] (defScope (top 19)) := ⟨rfl, rfl, rfl, by decide +kernel, rfl, by decide +kernel, by decide +kernel⟩
  refine T._law_pull.ok sc (fun vs H Q E h => ?_) (fun cdv A outer s H vs Q E hr h => ?_)
  · obtain ⟨p, m, rfl, _⟩ := h
    rfl
  · obtain ⟨p, m, rfl, S, hm0, hm1, k⟩ := h
    have S0 := S
    obtain ⟨L, SL⟩ := S
    obtain ⟨ns, i, b, c, hp, hL, hn, hi, hb, hc0, hc1⟩ := id SL
    refine ⟨_, (pss_cons (ps_if (PW.pt (pw_and (pt_cmpR op_eq (pe_ix ix_list (pv 0) pe_int (fun _ _ => rfl)) pe_int (nomark _)) (pw_and1 (pt_cmpR op_lt (pe_ix ix_list (pv 0) pe_int (fun _ _ => rfl)) (pe_callB call_len_seq (by rfl) T.len PySem.boot_len (pa_cons (pe_ix ix_list (pv 0) pe_int (fun _ _ => rfl)) pa_nil)) (nomark _)))))
      (pss_cons (ps_set (i := 2) sc.nd rfl (by first | exact Or.inl rfl | exact Or.inr rfl) (pe_ix ix_list (pe_ix ix_list (pv 0) pe_int (fun _ _ => rfl)) (pe_ix ix_list (pv 0) pe_int (fun _ _ => rfl)) (fun _ _ => rfl)))
      (pss_cons (ps_asg (pe_op op_add (pe_ix ix_list (pv 0) pe_int (fun _ _ => rfl)) pe_int) (pg_sub (pv 0) pe_int set_list))
      (pss_one (ps_if (pt_cmpR op_ge (pv 2) (pe_op op_pow pe_int pe_int) (nomark _))
      (pss_one (ps_asg (pv 2) (pg_sub (pv 0) pe_int set_list)))
      (pss_one (ps_asg (pe_op op_mod (pe_callTy call_int1 (by rfl) T.int (by decide +kernel) (pa_cons (pe_op op_add (pe_op op_add (pe_op op_mul (pe_ix ix_list (pv 0) pe_int (fun _ _ => rfl)) pe_int) (pe_op op_mod (pe_callTy call_int1 (by rfl) T.int (by decide +kernel) (pa_cons (pv 2) pa_nil)) pe_int)) pe_int) pa_nil)) pe_int) (pg_sub (pv 0) pe_int set_list)))))))
      pss_nil)
      (pss_cons (ps_if (pt_cmpR op_gt (pe_ix ix_list (pv 0) pe_int (fun _ _ => rfl)) pe_int (nomark _))
      (pss_cons (ps_set (i := 3) sc.nd rfl (by first | exact Or.inl rfl | exact Or.inr rfl) (pe_op op_modN (pe_callTy call_int1 (by rfl) T.int (by decide +kernel) (pa_cons (pe_ix ix_list (pv 0) pe_int (fun _ _ => rfl)) pa_nil)) (pv 1)))
      (pss_cons (ps_asg (pe_op op_fdivW (pe_ix ix_list (pv 0) pe_int (fun _ _ => rfl)) (pv 1)) (pg_sub (pv 0) pe_int set_list))
      (pss_one (ps_ret (pv 3)))))
      pss_nil)
      (pss_cons (ps_asg (pe_op op_mod (pe_callTy call_int1 (by rfl) T.int (by decide +kernel) (pa_cons (pe_op op_add (pe_op op_mul (pe_ix ix_list (pv 0) pe_int (fun _ _ => rfl)) pe_int) pe_int) pa_nil)) pe_int) (pg_sub (pv 0) pe_int set_list))
      (pss_cons (ps_set (i := 3) sc.nd rfl (by first | exact Or.inl rfl | exact Or.inr rfl) (pe_op op_mod (pe_callTy call_int1 (by rfl) T.int (by decide +kernel) (pa_cons (pe_op op_add (pe_op op_mul (pe_ix ix_list (pv 0) pe_int (fun _ _ => rfl)) pe_int) (pe_op op_fdiv (pe_ix ix_list (pv 0) pe_int (fun _ _ => rfl)) pe_int)) pa_nil)) pe_int))
      (pss_one (ps_ret (pe_op op_modN (pe_callTy call_int1 (by rfl) T.int (by decide +kernel) (pa_cons (pe_op op_fdiv (pv 3) pe_int) pa_nil)) (pv 1)))))))), ?_⟩
    have nL : L ≠ p := ne_of hL hp (by intro z; injection z with z; cases ns <;> cases z)
    have nL' : p ≠ L := nL.symm
    have hmn : 0 < m ∧ m.natAbs.log2 < 9000 := wide_div (i := 0) hm0 (b := 100) (Nat.lt_of_le_of_lt (show m.natAbs ≤ 1000000000000000000000000000000 by omega) (by decide)) (by decide) (by decide)
    have hmz : m ≠ 0 := by omega
    walk_at "go"
    refine i_itei (fun hb0 => ?_) (fun hb0 => ?_)
    · walk_at "go"
      refine i_itd (fun hlt => ?_) (fun hlt => ?_)
      · obtain ⟨z, hz⟩ := at_ints hi hlt
        walk_at "go"
        refine i_ixl hL hz ?_
        walk_at "go"
        have e18 : (10 : Int) ^ Int.toNat 18 = 1000000000000000000 := by decide
        refine i_itd (fun hz => ?_) (fun hz => ?_)
        · rw [e18] at hz
          walk_at "go"
          refine i_itd (fun h1 => ?_) (fun h1 => ?_)
          · walk_at "go"
            refine k _ _ (fm hm0).1 (fm hm0).2 (went_mk SL (st_upd (i := i + 1) (b := z / m) (c := c) rfl nL (by walk_at "hp") hn (by omega) (Int.ediv_nonneg (by omega) (by omega)) hc0 hc1) fun a o n h => by simp only [upd_ne n]; exact h)
          · exact absurd (by omega : 0 < z) h1
        · walk_at "go"
          refine i_itd (fun h1 => ?_) (fun h1 => ?_)
          · exact absurd h1 (by omega)
          · walk_at "go"
            refine k _ _ (fm hm0).1 (fm hm0).2 (went_mk SL (st_upd (i := i + 1) (b := b) rfl nL (by walk_at "hp") hn (by omega) hb (by omega) (by omega)) fun a o n h => by simp only [upd_ne n]; exact h)
      · walk_at "go"
        refine i_itd (fun h1 => ?_) (fun h1 => ?_)
        · exact absurd h1 (by omega)
        · walk_at "go"
          refine k _ _ (fm hm0).1 (fm hm0).2 (went_mk SL (st_upd (i := i) (b := b) rfl nL (by walk_at "hp") hn (by omega) hb (by omega) (by omega)) fun a o n h => by simp only [upd_ne n]; exact h)
    · walk_at "go"
      refine i_itd (fun h1 => ?_) (fun h1 => ?_)
      · walk_at "go"
        refine k _ _ (fm hm0).1 (fm hm0).2 (went_mk SL (st_upd (i := i) (b := b / m) (c := c) rfl nL (by walk_at "hp") hn (by omega) (Int.ediv_nonneg (by omega) (by omega)) hc0 hc1) fun a o n h => by simp only [upd_ne n]; exact h)
      · exact absurd (by omega : 0 < b) h1
def spStart (K : PySem.W.Frag) : Sp := fun vs H Q _ => ∃ (s : Addr) (ns : List Int), vs = [.ref s] ∧ SqL K H s (ns.map V.int) ∧ ns.length ≤ 63 ∧ ∀ (p : Addr) (H' : Hp), H p = none → StOk H' p → Same H H' → Q (.ref p) H'
theorem ok_start (T : Txt P K mg a) : FnOk P w K mg base CX0 1 a._law_start.f a._law_start.fd ["_law_script"] (spStart K) := by
  have sc : FnScope ["_law_script"] ["_law_script"] (defScope (top 18)) := ⟨rfl, rfl, rfl, by decide +kernel, rfl, by decide +kernel, by decide +kernel⟩
  refine T._law_start.ok sc (fun vs H Q E h => ?_) (fun cdv A outer s H vs Q E hr h => ?_)
  · obtain ⟨p, m, rfl, _⟩ := h
    rfl
  · obtain ⟨sa, ns, rfl, hS, hn, k⟩ := h
    refine ⟨_, (pss_one (ps_ret (pe_lst (pa_cons (pe_callTy call_list_of (by rfl) T.list (by decide +kernel) (pa_cons (pv 0) pa_nil)) (pa_cons pe_int (pa_cons pe_int (pa_cons pe_int pa_nil))))))), ?_⟩
    walk_at "go"
    refine ⟨sa, _, rfl, .inl hS, fun L nL => ?_⟩
    walk_at "go"
    rename_i p np
    obtain ⟨npL, npH⟩ := upd_none np
    refine k p _ npH ⟨L, ns, 0, 0, 1234577, upd_same, ?_, hn, by omega, by omega, by omega, by omega⟩ fun b o e => ?_
    · walk_at "hp"
    · rw [upd_ne (ne_of_none e npH), upd_ne (ne_of_none e nL)]; exact e
def spRow : Sp := fun vs H Q _ => ∃ (p : Addr) (n : Int), vs = [.ref p, .int n] ∧ StOk H p ∧ 0 ≤ n ∧ n ≤ 1000 ∧ ∀ (z : Str) (H' : Hp), z.length = n.toNat → Went p H H' → Q (.str z) H'
theorem join_len (ys : List Str) (h : ∀ y ∈ ys, y.length = 1) : (Txt.join "" ys).length = ys.length := by
  have f : ∀ zs : List Str, (∀ y ∈ zs, y.length = 1) → (Str.join "" zs).length = zs.length := by
    intro zs hz
    induction zs with
    | nil => rfl
    | cons a r ih =>
      have ha := hz a List.mem_cons_self
      have ih := ih fun y hy => hz y (List.mem_cons_of_mem _ hy)
      cases r with
      | nil => exact ha
      | cons b r =>
        show (a ++ "" ++ Str.join "" (b :: r)).length = _
        rw [PySem.Str.length_append, PySem.Str.length_append, ha, ih]
        show 1 + 0 + _ = _
        simp only [List.length_cons]
        omega
  rw [TL.join_eq]
  exact f ys h
theorem ok_row (T : Txt P K mg a) : FnOk P w K mg base CX0 2 a._law_row.f a._law_row.fd ["_law_state", "_law_many"] spRow := by
  have G__law_pull : FnOk P w K mg base CX0 1 a._law_pull.f a._law_pull.fd ["_law_state", "_law_many"] spPull := ok_pull T
  have sc : FnScope ["_law_state", "_law_many", "_law_k"] ["_law_state", "_law_many"] (defScope (top 20)) := ⟨rfl, rfl, rfl, by decide +kernel, rfl, by decide +kernel, by decide +kernel⟩
  refine T._law_row.ok sc (fun vs H Q E h => ?_) (fun cdv A outer s H vs Q E hr h => ?_)
  · obtain ⟨p, n, rfl, _⟩ := h
    rfl
  · obtain ⟨p, n, rfl, S, n0, n1, k⟩ := h
    refine ⟨_, (pss_one (ps_ret (pe_join pe_str (pe_lc (own := [("_law_k", 2)]) (g := gName 2) (by rfl) sc.nd (pi_range1 rfl T.range (pa_cons (pv 1) pa_nil)) (blkOk_by (own := [("_law_k", 2)]) (N := ["_law_state", "_law_many", "_law_k"]) (sc := defScope (top 20)) (by decide +kernel)) (fun _ _ _ _ _ => pg_name (i := 2) sc.nd rfl (Or.inl rfl)) (fun _ _ _ _ _ => pts_nil) (fun _ _ _ _ _ => (by exact (pe_callTy call_str_int (by rfl) T.str (by decide +kernel) (pa_cons (pe_call G__law_pull (hr.mono (by decide)) rfl T._law_pull.mg T._law_pull.kp T._law_pull.b .nil pass0 (pa_cons (pv 0) (pa_cons pe_int pa_nil))) pa_nil)))))))), ?_⟩
    walk_at "go"
    refine i_m1 ?_
    walk_at "go"
    refine ⟨⟨_, rfl⟩, ?_⟩
    refine ⟨_, rfl, n, rfl, by omega, by omega, fun D nD => ?_⟩
    have Dp : D ≠ p := S.ne nD
    refine lc_range (lo := 0) (n := n.toNat) (fun i H3 => ∃ ys : List Str, H3 D = some (.lst (ys.map V.str)) ∧ ys.length = i ∧ (∀ y ∈ ys, y.length = 1) ∧ Went p H H3) ⟨[], upd_same, rfl, by simp, (Went.rfl' S).new nD⟩ ?_ ?_
    · rintro i H3 hi ⟨ys, e1, e2, e3, W3⟩
      refine ⟨rfl, ?_⟩
      dsimp only [tYes]
      rw [if_pos rfl]
      refine ⟨_, rfl, p, _, rfl, W3.1, by decide, by decide, fun r4 H4 q0 q1 W4 => ?_⟩
      have hr4 : r4 = 0 ∨ r4 = 1 := by omega
      have l4 : r4.natAbs.log2 < 1920 ∧ (Str.ofString (toString r4)).length = 1 := by
        rcases hr4 with rfl | rfl
        · exact ⟨by decide, by decide +kernel⟩
        · exact ⟨by decide, by decide +kernel⟩
      refine ⟨r4, rfl, l4.1, ys.map V.str, W4.get Dp e1, by rw [List.length_map]; show ys.length < 16777216; omega, ys ++ [Str.ofString (toString r4)], ?_, ?_, ?_, ?_⟩
      · rw [upd_same]; simp
      · simp [e2]
      · intro y hy
        rcases List.mem_append.mp hy with hy | hy
        · exact e3 y hy
        · rw [List.mem_singleton.mp hy]; exact l4.2
      · exact Went.wr S (W3.trans W4) nD Dp
    · rintro H3 ⟨ys, e1, e2, e3, W3⟩
      have es : (ys.map (·.length)).sum = ys.length := by
        clear e1 e2
        induction ys with
        | nil => rfl
        | cons y r ih =>
          rw [List.map_cons, List.sum_cons, ih fun z hz => e3 z (List.mem_cons_of_mem _ hz), e3 y List.mem_cons_self, List.length_cons]
          omega
      refine ⟨_, D, ys, rfl, rfl, .inl (SqL.of e1), ?_, k _ _ ?_ W3⟩
      · rw [es]
        show ys.length + ys.length * 0 ≤ 16777216
        omega
      · rw [join_len ys e3, e2]
def spPlace : Sp := fun vs H Q _ => ∃ (x : V) (n : Int), vs = [x, .int n] ∧ Th H x ∧ Q (.bl (withinV x 0 (n - 1))) H
theorem ok_place (T : Txt P K mg a) : FnOk P w K mg base CX0 2 a._law_place.f a._law_place.fd ["_law_thing", "_law_many"] spPlace := by
  have G__law_is_int : FnOk P w K mg base CX0 1 a._law_is_int.f a._law_is_int.fd ["_law_told"] spIsInt := ok_law_is_int T
  have sc : FnScope ["_law_thing", "_law_many"] ["_law_thing", "_law_many"] (defScope (top 22)) := ⟨rfl, rfl, rfl, by decide +kernel, rfl, by decide +kernel, by decide +kernel⟩
  refine T._law_place.ok sc (fun vs H Q E h => ?_) (fun cdv A outer s H vs Q E hr h => ?_)
  · obtain ⟨x, n, rfl, _⟩ := h; rfl
  · obtain ⟨x, n, rfl, hx, k⟩ := h
    refine ⟨_, (pss_one (ps_ret (pe_and (pe_call G__law_is_int (hr.mono (by first | decide | omega)) rfl T._law_is_int.mg T._law_is_int.kp T._law_is_int.b .nil pass0 (pa_cons (pv 0) pa_nil)) (pe_and (pe_cmpR op_le pe_int (pv 0) (nomark _)) (pe_one (pe_cmpR op_lt (pv 0) (pv 1) (nomark _))))))), ?_⟩
    walk_at "go"
    refine ⟨x, rfl, hx, _, rfl, ?_⟩
    cases hx with
    | int i =>
      refine i_yes rfl ?_
      have kk : Q (.bl (decide (0 ≤ i) && decide (i ≤ n - 1))) H := k
      walk_at "go"
      refine i_itd (fun h1 => ?_) (fun h1 => ?_)
      · rw [decide_eq_true h1, Bool.true_and] at kk
        have e : decide (i ≤ n - 1) = decide (i < n) := by
          by_cases q : i < n
          · rw [decide_eq_true q]; exact decide_eq_true (by omega)
          · rw [decide_eq_false q]; exact decide_eq_false (by omega)
        rw [e] at kk
        walk_at "go"
        exact kk
      · rw [decide_eq_false h1, Bool.false_and] at kk
        exact kk
    | _ => exact i_no rfl k
end
end Me
set_option maxHeartbeats 8000000
namespace Me
open PySem L2


end Me
local macro_rules | `(tactic| walk_at "go3") => `(tactic| repeat (first | walk_at "go1" | (with_reducible refine And.intro (a := L2.V.non = L2.V.non) rfl ?_) | ((with_reducible refine' Me.i_yes ?_ ?_); (first | rfl | exact decide_eq_true rfl)) | ((with_reducible refine' Me.i_no ?_ ?_); (first | rfl | (simp; done)))))
namespace Me
open PySem L2
/-- a comprehension over the signs of a text -/
theorem lc_its {x : Str} {g : TG} {tt : TT} {te : TE} {vs : List Nat} {σ : L2.St} {H1 : Hp} {D : Addr} {Qd : Hp → Prop} (Pv : Nat → Hp → Prop) (h0 : Pv 0 (upd H1 D (.lst [])))
    (hs : ∀ i c H, x.cps[i]? = some c → Pv i H → g (.str ⟨#[c]⟩) (wipe σ vs) H fun σ2 H2 => wipe σ2 vs = wipe σ vs ∧ tt σ2 H2 fun b H3 =>
      if b = true then te σ2 H3 fun y H4 => ∃ acc, H4 D = some (.lst acc) ∧ acc.length < sizeLine ∧ Pv (i + 1) (upd H4 D (.lst (acc ++ [y]))) else Pv (i + 1) H3) (hd : ∀ H, Pv x.cps.size H → Qd H) :
    ∃ W : Nat → Nat → Hp → Prop, (∃ m, W 0 m (upd H1 D (.lst []))) ∧ ∀ i m H, W i m H →
      ((Its x).stop i H ∧ Qd H) ∨ ((Its x).go i H ∧ ∃ Nx : Hp → Prop, (∀ H', Nx H' → ∃ m', m' < m ∧ W (i + 1) m' H') ∧ ∀ v H', (Its x).yld i H v H' → g v (wipe σ vs) H' fun σ2 H2 => wipe σ2 vs = wipe σ vs ∧ tt σ2 H2 fun b H3 =>
        if b = true then te σ2 H3 fun y H4 => ∃ acc, H4 D = some (.lst acc) ∧ acc.length < sizeLine ∧ Nx (upd H4 D (.lst (acc ++ [y]))) else Nx H3) := by
  refine ⟨fun i m H => m = x.cps.size - i ∧ i ≤ x.cps.size ∧ Pv i H, ⟨x.cps.size, by simp, Nat.zero_le _, h0⟩, ?_⟩
  rintro i m H ⟨rfl, hi, p⟩
  by_cases lt : i < x.cps.size
  · refine .inr ⟨lt, Pv (i + 1), fun H' p' => ⟨x.cps.size - (i + 1), by omega, rfl, lt, p'⟩, fun v H' y => ?_⟩
    obtain ⟨rfl, c, hc, rfl⟩ := y
    exact hs i c _ hc p
  · have e : i = x.cps.size := by omega
    subst e
    exact .inl ⟨Nat.le_refl _, hd H p⟩
theorem take_cps {z : Str} {i c : Nat} (h : z.cps[i]? = some c) : z.cps.toList.take (i + 1) = z.cps.toList.take i ++ [c] := by
  have h2 : z.cps.toList[i]? = some c := by rw [Array.getElem?_toList]; exact h
  obtain ⟨lt, e⟩ := List.getElem?_eq_some_iff.mp h2
  rw [← e]
  exact (List.take_append_getElem lt).symm
/-- the signs that are no bits -/
def nb (z : Str) (i : Nat) : List V := ((z.cps.toList.take i).filter fun c => !bitB c).map fun c => V.str ⟨#[c]⟩
theorem nb_len {z : Str} {i : Nat} : (nb z i).length ≤ z.length := by
  show (((z.cps.toList.take i).filter _).map _).length ≤ z.cps.size
  rw [List.length_map]
  refine Nat.le_trans (List.length_filter_le _ _) ?_
  rw [List.length_take, Array.length_toList]
  omega
theorem nb_step {z : Str} {i c : Nat} (hc : z.cps[i]? = some c) (hb : bitB c = false) : nb z (i + 1) = nb z i ++ [V.str ⟨#[c]⟩] := by
  show ((z.cps.toList.take (i + 1)).filter _).map _ = _
  rw [take_cps hc, List.filter_append, List.map_append, List.filter_cons_of_pos (by rw [hb]; rfl)]; rfl
theorem nb_skip {z : Str} {i c : Nat} (hc : z.cps[i]? = some c) (hb : bitB c = true) : nb z (i + 1) = nb z i := by
  show ((z.cps.toList.take (i + 1)).filter _).map _ = _
  rw [take_cps hc, List.filter_append, List.map_append, List.filter_cons_of_neg (by rw [hb]; simp)]
  exact List.append_nil _
theorem nb_all {z : Str} : decide (V.int ((nb z z.cps.size).length : Int) = V.int 0) = bitsS z := by
  unfold bitsS
  have e : nb z z.cps.size = (z.cps.toList.filter fun c => !bitB c).map fun c => V.str ⟨#[c]⟩ := by
    show ((z.cps.toList.take _).filter _).map _ = _
    rw [List.take_of_length_le (by rw [Array.length_toList]; exact Nat.le_refl _)]
  rw [e, List.length_map]
  by_cases h : z.cps.toList.all bitB = true
  · rw [h, List.filter_eq_nil_iff.mpr (fun c m => by rw [List.all_eq_true.mp h c m]; simp)]
    exact decide_eq_true rfl
  · rw [Bool.eq_false_iff.mpr h]
    refine decide_eq_false fun q => h ?_
    have q := V.int.inj q
    have q : (z.cps.toList.filter fun c => !bitB c).length = 0 := by omega
    have q := List.filter_eq_nil_iff.mp (List.length_eq_zero_iff.mp q)
    refine List.all_eq_true.mpr fun c m => ?_
    have := q c m
    revert this
    cases bitB c <;> simp
theorem in01 (c : Nat) : inV (.str ⟨#[c]⟩) [V.str "0", V.str "1"] = bitB c := by
  have z0 : ("0" : Str) = ⟨#[48]⟩ := by decide +kernel
  have z1 : ("1" : Str) = ⟨#[49]⟩ := by decide +kernel
  have h0 : (⟨#[c]⟩ : Str) = "0" ↔ c = 48 := by rw [z0]; exact ⟨fun e => by injection e with e; simpa using e, fun e => by rw [e]⟩
  have h1 : (⟨#[c]⟩ : Str) = "1" ↔ c = 49 := by rw [z1]; exact ⟨fun e => by injection e with e; simpa using e, fun e => by rw [e]⟩
  unfold inV bitB
  simp only [List.any_cons, List.any_nil, eqV, Bool.or_false]
  have b0 : (("0" : Str) == (⟨#[c]⟩ : Str)) = decide (c = 48) := by
    by_cases h : c = 48
    · rw [decide_eq_true h, h0.mpr h]; exact beq_self_eq_true _
    · rw [decide_eq_false h]; exact beq_eq_false_iff_ne.mpr fun e => h (h0.mp e.symm)
  have b1 : (("1" : Str) == (⟨#[c]⟩ : Str)) = decide (c = 49) := by
    by_cases h : c = 49
    · rw [decide_eq_true h, h1.mpr h]; exact beq_self_eq_true _
    · rw [decide_eq_false h]; exact beq_eq_false_iff_ne.mpr fun e => h (h1.mp e.symm)
  rw [b0, b1]
section
variable {P : Program} {w : World} {K : PySem.W.Frag} {mg : Str → Option Value} {base : Heap} {a : Ad}
def spLBits : Sp := fun vs H Q _ => ∃ x, vs = [x] ∧ Th H x ∧ Sh x ∧ ∀ H', Same H H' → Q (.bl (bitsV x)) H'
theorem ok_lbits (T : Txt P K mg a) : FnOk P w K mg base CX0 1 a._law_is_bits.f a._law_is_bits.fd ["_law_told"] spLBits := by
  have sc : FnScope ["_law_told", "_law_sign"] ["_law_told"] (defScope (top 17)) := ⟨rfl, rfl, rfl, by decide +kernel, rfl, by decide +kernel, by decide +kernel⟩
  refine T._law_is_bits.ok sc (fun vs H Q E h => ?_) (fun cdv A outer s H vs Q E hr h => ?_)
  · obtain ⟨x, rfl, _⟩ := h; rfl
  · obtain ⟨x, rfl, hx, hz, k⟩ := h
    refine ⟨_, (pss_one (ps_ret (pe_and (pe_callB call_isi (by rfl) T.isinstance (by decide +kernel) (pa_cons (pv 0) (pa_cons (pe_bltn (v := .ty "str") (by rfl) T.str (by decide +kernel) rfl) pa_nil))) (pe_one (pe_cmpR op_eq (pe_callB call_len_seq (by rfl) T.len PySem.boot_len (pa_cons (pe_lc (tt := tTest (tOp (rIn K true) (tVar 1) (tTup (tCons (tC (.str "0")) (tCons (tC (.str "1")) tNil))))) (own := [("_law_sign", 1)]) (g := gName 1) (by rfl) sc.nd (pi_str (pv 0)) (blkOk_by (own := [("_law_sign", 1)]) (N := ["_law_told", "_law_sign"]) (sc := defScope (top 17)) (by decide +kernel)) (fun _ _ _ _ _ => pg_name (i := 1) sc.nd rfl (Or.inl rfl)) (fun _ _ _ _ _ => (by exact (pts_one (pt_cmpR op_notIn_seq (pv 1) (pe_tup (pa_cons pe_str (pa_cons pe_str pa_nil))) (by rfl))))) (fun _ _ _ _ _ => (by exact (pv 1)))) pa_nil)) pe_int (nomark _)))))), ?_⟩
    have k0 := k H fun _ _ e => e
    cases hx with
    | str z =>
      have hz := hz z rfl
      walk_at "go"
      refine ⟨_, rfl, z, rfl, fun D nD => ?_⟩
      refine lc_its (Qd := fun H' => ∃ (p : Addr) (ys : List V), [V.ref D] = [V.ref p] ∧ (SqL K H' p ys ∨ SqT K H' p ys) ∧ rEq (V.int (ys.length : Int)) (V.int 0) H' Q) (fun i H' => H' D = some (.lst (nb z i)) ∧ Same H H') ⟨upd_same, same_new same_rfl nD⟩ (fun i c H1 hc e => ?_) (fun H1 e => ?_)
      · obtain ⟨e1, e2⟩ := e
        refine ⟨rfl, ?_⟩
        walk_at "go"
        rename_i t nt
        have tD : D ≠ t := ne_of_none e1 nt
        have e1' : upd H1 t (.tup [.str "0", .str "1"]) D = some (.lst (nb z i)) := by rw [upd_ne tD]; exact e1
        have e2' : Same H (upd H1 t (.tup [.str "0", .str "1"])) := same_new e2 nt
        have lt : (nb z i).length < sizeLine := Nat.lt_of_le_of_lt (Nat.le_trans nb_len hz) (by decide)
        refine ⟨t, _, rfl, .inr (SqT.of upd_same), rfl, rfl, ?_⟩
        rw [if_pos rfl, in01]
        walk_at "go"
        cases hb : bitB c with
        | false =>
          refine i_yes rfl ?_
          refine ⟨_, rfl, nb z i, e1', lt, ?_, ?_⟩
          · rw [upd_same, nb_step hc hb]
          · exact fun b o e => by rw [upd_ne (ne_of_none e nD)]; exact e2' b o e
        | true =>
          refine i_no rfl ?_
          exact ⟨by rw [nb_skip hc hb]; exact e1', e2'⟩
      · refine ⟨D, nb z z.cps.size, rfl, .inl (SqL.of e.1), rfl, ?_⟩
        rw [nb_all]
        exact k _ e.2
    | _ => (walk_at "go"; exact k0)
/-! ### what is due -/
inductive Due where
  | none
  | number
  | fine
def tupOf : Due → List V
  | .number => [.str "number", .str "at", .bl true]
  | _ => [.str "none", .bl true]
def dueOf (x y : V) (l : Int) (g : Bool) : Due := match x with
  | .str z => if bitsS z = true then (if withinV y 0 ((z.length : Int) + l - 1) = true then (if g = true then .fine else .none) else .number) else .none
  | _ => .none
def spDue : Sp := fun vs H Q _ => ∃ (x y : V) (l : Int) (g : Bool), vs = [x, y, .int l, .bl g] ∧ Th H x ∧ Sh x ∧ Th H y ∧ ∀ H', Same H H' → (dueOf x y l g = .fine → Q .non H') ∧ ∀ d t, dueOf x y l g = d → d ≠ .fine → H' t = some (.tup (tupOf d)) → Q (.ref t) H'
theorem ok_due (T : Txt P K mg a) : FnOk P w K mg base CX0 3 a._law_one_due.f a._law_one_due.fd ["_law_bits", "_law_at", "_law_more", "_law_good"] spDue := by
  have G__law_is_bits : FnOk P w K mg base CX0 1 a._law_is_bits.f a._law_is_bits.fd ["_law_told"] spLBits := ok_lbits T
  have G__law_place : FnOk P w K mg base CX0 2 a._law_place.f a._law_place.fd ["_law_thing", "_law_many"] spPlace := ok_place T
  have sc : FnScope ["_law_bits", "_law_at", "_law_more", "_law_good"] ["_law_bits", "_law_at", "_law_more", "_law_good"] (defScope (top 23)) := ⟨rfl, rfl, rfl, by decide +kernel, rfl, by decide +kernel, by decide +kernel⟩
  refine T._law_one_due.ok sc (fun vs H Q E h => ?_) (fun cdv A outer s H vs Q E hr h => ?_)
  · obtain ⟨x, y, l, g, rfl, _⟩ := h; rfl
  · obtain ⟨x, y, l, g, rfl, hx, sx, hy, k⟩ := h
    refine ⟨_, (pss_cons (ps_if (pt_not (pt_val (pe_call G__law_is_bits (hr.mono (by first | decide | omega)) rfl T._law_is_bits.mg T._law_is_bits.kp T._law_is_bits.b .nil pass0 (pa_cons (pv 0) pa_nil))))
      (pss_one (ps_ret (pe_tup (pa_cons pe_str (pa_cons pe_bl pa_nil)))))
      pss_nil)
      (pss_cons (ps_if (pt_not (pt_val (pe_call G__law_place (hr.mono (by first | decide | omega)) rfl T._law_place.mg T._law_place.kp T._law_place.b .nil pass0 (pa_cons (pv 1) (pa_cons (pe_op op_add (pe_callB call_len_str (by rfl) T.len PySem.boot_len (pa_cons (pv 0) pa_nil)) (pv 2)) pa_nil)))))
      (pss_one (ps_ret (pe_tup (pa_cons pe_str (pa_cons pe_str (pa_cons pe_bl pa_nil))))))
      pss_nil)
      (pss_cons (ps_if (pt_not (pt_val (pv 3)))
      (pss_one (ps_ret (pe_tup (pa_cons pe_str (pa_cons pe_bl pa_nil)))))
      pss_nil)
      (pss_one (ps_ret pe_non))))), ?_⟩
    walk_at "go"
    refine ⟨x, rfl, hx, sx, fun H1 s1 => ?_⟩
    walk_at "go"
    cases e : bitsV x with
    | false =>
      have ed : dueOf x y l g = .none := by
        cases x with
        | str z =>
          have e : bitsS z = false := e
          show (if bitsS z = true then _ else _) = _
          rw [e, if_neg Bool.false_ne_true]
        | _ => rfl
      refine i_yes rfl ?_
      walk_at "go"
      rename_i t nt
      exact (k _ (same_new s1 nt)).2 _ t ed (fun z => by cases z) upd_same
    | true =>
      refine i_no rfl ?_
      obtain ⟨z, rfl, hz⟩ := bits_str e
      have lz := sx z rfl
      walk_at "go"
      refine ⟨z, rfl, Nat.le_trans lz (by decide), ?_⟩
      walk_at "go"
      refine ⟨y, _, rfl, hy.same s1, ?_⟩
      walk_at "go"
      cases e2 : withinV y 0 ((z.length : Int) + l - 1) with
      | false =>
        have ed : dueOf (.str z) y l g = .number := by
          show (if bitsS z = true then (if withinV y 0 ((z.length : Int) + l - 1) = true then _ else _) else _) = _
          rw [hz, if_pos rfl, e2, if_neg Bool.false_ne_true]
        refine i_yes rfl ?_
        walk_at "go"
        rename_i t nt
        exact (k _ (same_new s1 nt)).2 _ t ed (fun z => by cases z) upd_same
      | true =>
        refine i_no rfl ?_
        walk_at "go"
        cases g with
        | false =>
          have ed : dueOf (.str z) y l false = .none := by
            show (if bitsS z = true then (if withinV y 0 ((z.length : Int) + l - 1) = true then _ else _) else _) = _
            rw [hz, if_pos rfl, e2, if_pos rfl]
            rfl
          refine i_yes rfl ?_
          walk_at "go"
          rename_i t nt
          exact (k _ (same_new s1 nt)).2 _ t ed (fun z => by cases z) upd_same
        | true =>
          have ed : dueOf (.str z) y l true = .fine := by
            show (if bitsS z = true then (if withinV y 0 ((z.length : Int) + l - 1) = true then _ else _) else _) = _
            rw [hz, if_pos rfl, e2, if_pos rfl]
            rfl
          refine i_no rfl ?_
          walk_at "go"
          exact (k _ s1).1 ed
/-! ### the same -/
/-- values that are the same, to a depth -/
def Eqv (H : Hp) : Nat → V → V → Prop
  | 0, x, y => x = y ∧ flatV x = true
  | n + 1, x, y => (x = y ∧ flatV x = true) ∨ ∃ p q xs ys, x = .ref p ∧ y = .ref q ∧ (H p = some (.tup xs) ∧ H q = some (.tup ys)) ∧ xs.length = ys.length ∧ xs.length ≤ 1000 ∧
    ∀ (i : Nat) x y, xs[i]? = some x → ys[i]? = some y → Eqv H n x y
def spSame (n : Nat) : Sp := fun vs H Q _ => ∃ x y, vs = [x, y] ∧ Eqv H n x y ∧ Q (.bl true) H
theorem Eqv.ways {H : Hp} {n : Nat} {x y : V} (h : Eqv H n x y) : (x = y ∧ flatV x = true) ∨ ∃ m, n = m + 1 ∧ ∃ p q xs ys, x = .ref p ∧ y = .ref q ∧ (H p = some (.tup xs) ∧ H q = some (.tup ys)) ∧ xs.length = ys.length ∧ xs.length ≤ 1000 ∧
    ∀ (i : Nat) x y, xs[i]? = some x → ys[i]? = some y → Eqv H m x y := by
  cases n with
  | zero => exact .inl h
  | succ m =>
    rcases h with h | ⟨p, q, xs, ys, h⟩
    · exact .inl h
    · exact .inr ⟨m, rfl, p, q, xs, ys, h⟩
theorem same_step (T : Txt P K mg a) (n : Nat) {sp : Sp} (G__law_same : FnOk P w K mg base CX0 (n + 1) a._law_same.f a._law_same.fd ["_law_told", "_law_due"] sp) (hsp : ∀ m, n = m + 1 → ∀ vs H Q E, spSame m vs H Q E → sp vs H Q E) :
    FnOk P w K mg base CX0 (n + 2) a._law_same.f a._law_same.fd ["_law_told", "_law_due"] (spSame n) := by
    have G__law_is_int : FnOk P w K mg base CX0 1 a._law_is_int.f a._law_is_int.fd ["_law_told"] spIsInt := ok_law_is_int T
    have sc : FnScope ["_law_told", "_law_due", "_law_name", "_law_k"] ["_law_told", "_law_due"] (defScope (top 16)) := ⟨rfl, rfl, rfl, by decide +kernel, rfl, by decide +kernel, by decide +kernel⟩
    refine T._law_same.ok sc (fun vs H Q E h => ?_) (fun cdv A outer s H vs Q E hr h => ?_)
    · obtain ⟨x, y, rfl, _⟩ := h
      rfl
    · obtain ⟨x, y, rfl, he, k⟩ := h
      refine ⟨_, (pss_cons (ps_if (pt_cmpR op_isN (pv 1) pe_non (nomark _))
      (pss_one (ps_ret (pe_cmpR op_isN (pv 0) pe_non (nomark _))))
      pss_nil)
      (pss_cons (ps_if (pt_val (pe_callB call_isi (by rfl) T.isinstance (by decide +kernel) (pa_cons (pv 1) (pa_cons (pe_bltn (v := .ty "bool") (by rfl) T.bool (by decide +kernel) rfl) pa_nil))))
      (pss_one (ps_ret (pe_and (pe_callB call_isi (by rfl) T.isinstance (by decide +kernel) (pa_cons (pv 0) (pa_cons (pe_bltn (v := .ty "bool") (by rfl) T.bool (by decide +kernel) rfl) pa_nil))) (pe_one (pe_cmpR op_eq (pv 0) (pv 1) (nomark _))))))
      pss_nil)
      (pss_cons (ps_if (pt_val (pe_callB call_isi (by rfl) T.isinstance (by decide +kernel) (pa_cons (pv 1) (pa_cons (pe_bltn (v := .ty "int") (by rfl) T.int (by decide +kernel) rfl) pa_nil))))
      (pss_one (ps_ret (pe_and (pe_call G__law_is_int (hr.mono (by first | decide | omega)) rfl T._law_is_int.mg T._law_is_int.kp T._law_is_int.b .nil pass0 (pa_cons (pv 0) pa_nil)) (pe_one (pe_cmpR op_eq (pv 0) (pv 1) (nomark _))))))
      pss_nil)
      (pss_cons (ps_if (pt_val (pe_callB call_isi (by rfl) T.isinstance (by decide +kernel) (pa_cons (pv 1) (pa_cons (pe_bltn (v := .ty "str") (by rfl) T.str (by decide +kernel) rfl) pa_nil))))
      (pss_one (ps_ret (pe_and (pe_callB call_isi (by rfl) T.isinstance (by decide +kernel) (pa_cons (pv 0) (pa_cons (pe_bltn (v := .ty "str") (by rfl) T.str (by decide +kernel) rfl) pa_nil))) (pe_one (pe_cmpR op_eq (pv 0) (pv 1) (nomark _))))))
      pss_nil)
      (pss_cons (ps_if (pt_val (pe_callB call_isi (by rfl) T.isinstance (by decide +kernel) (pa_cons (pv 1) (pa_cons (pe_bltn (v := .ty "dict") (by rfl) T.dict (by decide +kernel) rfl) pa_nil))))
      (pss_cons (ps_if (PW.pt (pw_or (pt_not (pt_val (pe_callB call_isi (by rfl) T.isinstance (by decide +kernel) (pa_cons (pv 0) (pa_cons (pe_bltn (v := .ty "dict") (by rfl) T.dict (by decide +kernel) rfl) pa_nil))))) (pw_or1 (pt_cmpR op_ne (pe_callB call_len_seq (by rfl) T.len PySem.boot_len (pa_cons (pv 0) pa_nil)) (pe_callB call_len_seq (by rfl) T.len PySem.boot_len (pa_cons (pv 1) pa_nil)) (nomark _)))))
      (pss_one (ps_ret pe_bl))
      pss_nil)
      (pss_one ps_never))
      pss_nil)
      (pss_cons (ps_if (PW.pt (pw_or (pt_cmpR op_ne (pe_callB call_isi (by rfl) T.isinstance (by decide +kernel) (pa_cons (pv 0) (pa_cons (pe_bltn (v := .ty "list") (by rfl) T.list (by decide +kernel) rfl) pa_nil))) (pe_callB call_isi (by rfl) T.isinstance (by decide +kernel) (pa_cons (pv 1) (pa_cons (pe_bltn (v := .ty "list") (by rfl) T.list (by decide +kernel) rfl) pa_nil))) (nomark _)) (pw_or1 (pt_cmpR op_ne (pe_callB call_isi (by rfl) T.isinstance (by decide +kernel) (pa_cons (pv 0) (pa_cons (pe_bltn (v := .ty "tuple") (by rfl) T.tuple (by decide +kernel) rfl) pa_nil))) (pe_callB call_isi (by rfl) T.isinstance (by decide +kernel) (pa_cons (pv 1) (pa_cons (pe_bltn (v := .ty "tuple") (by rfl) T.tuple (by decide +kernel) rfl) pa_nil))) (nomark _)))))
      (pss_one (ps_ret pe_bl))
      pss_nil)
      (pss_cons (ps_if (pt_cmpR op_ne (pe_callB call_len_seq (by rfl) T.len PySem.boot_len (pa_cons (pv 0) pa_nil)) (pe_callB call_len_seq (by rfl) T.len PySem.boot_len (pa_cons (pv 1) pa_nil)) (nomark _))
      (pss_one (ps_ret pe_bl))
      pss_nil)
      (pss_cons (ps_for PassesOwn.never rfl (pi_range1 rfl T.range (pa_cons (pe_callB call_len_seq (by rfl) T.len PySem.boot_len (pa_cons (pv 1) pa_nil)) pa_nil)) (pg_name (i := 3) sc.nd rfl (by first | exact Or.inl rfl | exact Or.inr rfl))
      (pss_one (ps_if (pt_not (pt_val (pe_call G__law_same (hr.mono (by first | decide | omega)) rfl T._law_same.mg T._law_same.kp T._law_same.b .nil pass0 (pa_cons (pe_ix ix_seq (pv 0) (pv 3) (fun _ _ => rfl)) (pa_cons (pe_ix ix_seq (pv 1) (pv 3) (fun _ _ => rfl)) pa_nil)))))
      (pss_one (ps_ret pe_bl))
      pss_nil)))
      (pss_one (ps_ret pe_bl)))))))))), ?_⟩
      rcases he.ways with ⟨rfl, fx⟩ | ⟨m, hm, p, q, xs, ys, rfl, rfl, ⟨hp, hq⟩, hl, hs, hx⟩
      · cases x with
        | non =>
          walk_at "go3"
          exact k
        | bl b =>
          walk_at "go3"
          rw [decide_eq_true rfl]
          exact k
        | int i =>
          walk_at "go3"
          refine ⟨_, rfl, .int i, ?_⟩
          walk_at "go3"
          rw [decide_eq_true rfl]
          exact k
        | str z =>
          walk_at "go3"
          rw [decide_eq_true rfl]
          exact k
        | _ => cases fx
      · have hl2 : (V.int (xs.length : Int)) = V.int (ys.length : Int) := by rw [hl]
        have at_ : ∀ {zs : List V} {i : Nat}, i < zs.length → ∃ v, zs[i]? = some v := fun {zs i} h => ⟨zs[i], List.getElem?_eq_getElem h⟩
        walk_at "go3"
        refine i_no (by rw [decide_eq_true hl2]; rfl) ?_
        walk_at "go3"
        refine ⟨_, rfl, q, ys, rfl, .inr (SqT.of hq), (ys.length : Int), rfl, by omega, by omega, for_range (n := ys.length) (fun _ σ H' => H' = H ∧ ∃ u v, σ = [some (.ref p), some (.ref q), u, v]) ⟨rfl, none, none, rfl⟩ ?_ ?_⟩
        · rintro i σ H1 hi ⟨rfl, u, v, rfl⟩
          obtain ⟨y, hy⟩ := at_ hi
          obtain ⟨x, hx'⟩ := at_ (zs := xs) (i := i) (by omega)
          have go2 : ∀ (R : VK), (∀ v, v = x → R v H1) → rIx K (.ref p) (.int (0 + (i : Int))) H1 R := fun R k => by
            rw [Int.zero_add]
            exact .inr (.inl ⟨p, xs, i, x, rfl, rfl, SqT.of hp, atI_nat hx', k x rfl⟩)
          have go4 : ∀ (R : VK), (∀ v, v = y → R v H1) → rIx K (.ref q) (.int (0 + (i : Int))) H1 R := fun R k => by
            rw [Int.zero_add]
            exact .inr (.inl ⟨q, ys, i, y, rfl, rfl, SqT.of hq, atI_nat hy, k y rfl⟩)
          refine ⟨_, rfl, _, rfl, go2 _ fun x' ex => ⟨_, rfl, _, rfl, go4 _ fun y' ey => ?_⟩⟩
          subst ex
          subst ey
          refine hsp m hm _ _ _ _ ⟨_, _, rfl, hx i _ _ hx' hy, true, rfl, ?_⟩
          refine i_no rfl ?_
          exact ⟨rfl, _, _, rfl⟩
        · rintro σ H1 ⟨rfl, u, v, rfl⟩
          exact k
theorem ok_same (T : Txt P K mg a) : ∀ n, FnOk P w K mg base CX0 (n + 2) a._law_same.f a._law_same.fd ["_law_told", "_law_due"] (spSame n)
  | 0 => same_step T 0 (sp := fun _ _ _ _ => False) ⟨fun _ _ _ _ h => h.elim, fun _ _ _ _ _ _ _ _ _ _ _ _ _ h => h.elim⟩ fun _ h => by omega
  | n + 1 => same_step T (n + 1) (ok_same T n) fun m h vs H Q E q => by
    have e : m = n := by omega
    subst e
    exact q
end
end Me
set_option maxHeartbeats 8000000
namespace Me
open PySem L2


/-! ### texts as lists -/
theorem tl_cat (x y : Str) : (x ++ y).cps.toList = x.cps.toList ++ y.cps.toList := TL.tl_append x y
theorem str_ext {x y : Str} (h : x.cps.toList = y.cps.toList) : x = y := TL.ext_tl h
theorem len_l (z : Str) : z.cps.toList.length = z.length := by simp [Str.length]
theorem tl_to (z : Str) (k : Nat) : (cutS z none (some (k : Int))).cps.toList = z.cps.toList.take k := by
  show ((z.cps.toList.drop (HT.sIx z.length 0 none)).take (HT.sIx z.length z.length (some (k : Int)) - HT.sIx z.length 0 none)).toArray.toList = _
  have e1 : HT.sIx z.length 0 none = 0 := rfl
  have e2 : HT.sIx z.length z.length (some (k : Int)) = min k z.length := HT.sIx_nat _ _ _
  rw [e1, e2]
  simp only [List.drop_zero, Nat.sub_zero]
  rw [← len_l, List.take_eq_take_iff]
  omega
theorem tl_from (z : Str) (k : Nat) : (cutS z (some (k : Int)) none).cps.toList = z.cps.toList.drop k := by
  show ((z.cps.toList.drop (HT.sIx z.length 0 (some (k : Int)))).take (HT.sIx z.length z.length none - HT.sIx z.length 0 (some (k : Int)))).toArray.toList = _
  have e1 : HT.sIx z.length z.length none = z.length := rfl
  have e2 : HT.sIx z.length 0 (some (k : Int)) = min k z.length := HT.sIx_nat _ _ _
  rw [e1, e2]
  show (z.cps.toList.drop (min k z.length)).take _ = _
  rw [List.take_of_length_le (by rw [List.length_drop, len_l]; omega), ← len_l]
  by_cases h : k ≤ z.cps.toList.length
  · rw [Nat.min_eq_left h]
  · rw [Nat.min_eq_right (by omega), List.drop_length, List.drop_eq_nil_of_le (by omega)]
def fl (c : Nat) : Nat := if c = 48 then 49 else 48
theorem tl_flip (c : Nat) : (flipS c).cps.toList = [fl c] := by
  have z0 : ("0" : Str) = ⟨#[48]⟩ := by decide +kernel
  unfold flipS fl
  by_cases h : c = 48
  · rw [if_pos h, if_pos (by rw [h, z0])]; decide +kernel
  · rw [if_neg h, if_neg (fun e => by rw [z0] at e; have e := V.str.inj e; injection e with e; simp at e; exact h e)]; decide +kernel
theorem fl_fl {c : Nat} (h : bitB c = true) : fl (fl c) = c := by
  unfold bitB at h
  unfold fl
  by_cases h1 : c = 48
  · rw [h1]; rfl
  · rw [decide_eq_false h1, Bool.false_or] at h
    have h := of_decide_eq_true h
    rw [h]; rfl
theorem fl_bit (c : Nat) : bitB (fl c) = true := by
  unfold fl bitB
  by_cases h : c = 48
  · rw [if_pos h]; rfl
  · rw [if_neg h]; rfl
/-- a text around one place -/
structure Around1 (z : Str) (k : Nat) (A : List Nat) (c : Nat) (B : List Nat) : Prop where
  e : z.cps.toList = A ++ c :: B
  l : A.length = k
theorem around {z : Str} {k : Nat} (h : k < z.length) : ∃ A c B, Around1 z k A c B := by
  have h2 : k < z.cps.toList.length := by rw [len_l]; exact h
  exact ⟨z.cps.toList.take k, z.cps.toList[k], z.cps.toList.drop (k + 1), by rw [List.getElem_cons_drop, List.take_append_drop], by rw [List.length_take]; omega⟩
section
variable {z : Str} {k c : Nat} {A B : List Nat}
theorem Around1.at (h : Around1 z k A c B) : atI z.cps.toList (k : Int) = some c := atI_nat (by rw [h.e, ← h.l]; simp)
theorem Around1.len (h : Around1 z k A c B) : z.length = A.length + (B.length + 1) := by rw [← len_l, h.e]; simp
theorem Around1.turn (h : Around1 z k A c B) (c' : Nat) : (turnS z (k : Int) c').cps.toList = A ++ fl c' :: B := by
  unfold turnS
  have e1 : ((k : Int) + 1) = ((k + 1 : Nat) : Int) := by omega
  rw [tl_cat, tl_cat, tl_to, e1, tl_from, tl_flip, h.e, ← h.l]
  simp
theorem Around1.drop (h : Around1 z k A c B) : (dropS z (k : Int)).cps.toList = A ++ B := by
  unfold dropS
  have e1 : ((k : Int) + 1) = ((k + 1 : Nat) : Int) := by omega
  rw [tl_cat, tl_to, e1, tl_from, h.e, ← h.l]
  simp
end
theorem tl_put (z b : Str) (k : Nat) : (putS z (k : Int) b).cps.toList = z.cps.toList.take k ++ (b.cps.toList ++ z.cps.toList.drop k) := by
  unfold putS
  rw [tl_cat, tl_cat, tl_to, tl_from, List.append_assoc]
theorem bits_l {z : Str} : bitsS z = z.cps.toList.all bitB := rfl
theorem one_l {b : Str} (h : oneV (.str b) = true) : ∃ c, b.cps.toList = [c] ∧ bitB c = true := by
  have h : (bitsS b && decide (b.length = 1)) = true := h
  obtain ⟨h1, h2⟩ := Bool.and_eq_true_iff.mp h
  have h2 := of_decide_eq_true h2
  rw [← len_l] at h2
  match q : b.cps.toList, h2 with
  | [c], _ =>
    refine ⟨c, rfl, ?_⟩
    rw [bits_l, q] at h1
    simpa using h1
/-! ### what the three answers are -/
def turnV (x y : V) : Str := match x, y with
  | .str z, .int i => turnS z i ((atI z.cps.toList i).getD 0)
  | _, _ => ""
def dropV (x y : V) : Str := match x, y with
  | .str z, .int i => dropS z i
  | _, _ => ""
def putV (x y u : V) : Str := match x, y, u with
  | .str z, .int i, .str b => putS z i b
  | _, _, _ => ""
def res (d : Due) (s : Str) : List V := match d with
  | .fine => [.str "told", .str s]
  | d => tupOf d
theorem due_fine {x y : V} {m : Int} {g : Bool} (h : dueOf x y m g = .fine) : ∃ z i, x = .str z ∧ y = .int i ∧ bitsS z = true ∧ 0 ≤ i ∧ i ≤ (z.length : Int) + m - 1 ∧ g = true := by
  cases x with
  | str z =>
    have h : (if bitsS z = true then (if withinV y 0 ((z.length : Int) + m - 1) = true then (if g = true then Due.fine else .none) else .number) else .none) = .fine := h
    by_cases h1 : bitsS z = true
    · rw [if_pos h1] at h
      by_cases h2 : withinV y 0 ((z.length : Int) + m - 1) = true
      · rw [if_pos h2] at h
        by_cases h3 : g = true
        · obtain ⟨i, rfl, i0, i1⟩ := within_int h2
          exact ⟨z, i, rfl, rfl, h1, i0, i1, h3⟩
        · rw [if_neg h3] at h; cases h
      · rw [if_neg h2] at h; cases h
    · rw [if_neg h1] at h; cases h
  | _ => cases h
theorem chk_of {C : Nat → Addr} {x y : V} {l m : Int} {Q : VK} {ok : Str → Int → Prop} {H : Hp} {g : Bool} (e : m = 1 - l) (hf : ∀ z i, x = .str z → y = .int i → bitsS z = true → 0 ≤ i → i ≤ (z.length : Int) - l → dueOf x y m g = (if g = true then .fine else .none) → ok z i)
    (hd : ∀ d H' t, dueOf x y m g = d → d ≠ .fine → Same H H' → H' t = some (.tup (tupOf d)) → Q (.ref t) H') : chk C x y l (EO C Q) ok H := by
  unfold chk
  cases ex : bitsV x with
  | false =>
    rw [if_neg Bool.false_ne_true]
    have ed : dueOf x y m g = .none := by
      cases x with
      | str z =>
        have ex : bitsS z = false := ex
        show (if bitsS z = true then _ else _) = _
        rw [ex, if_neg Bool.false_ne_true]
      | _ => rfl
    exact .inl ⟨rfl, rfl, fun t nt => hd _ _ t ed (fun z => by cases z) (same_new same_rfl nt) upd_same⟩
  | true =>
    rw [if_pos rfl]
    rintro z rfl
    have hz : bitsS z = true := ex
    have em : (z.length : Int) + m - 1 = (z.length : Int) - l := by omega
    cases e2 : withinV y 0 ((z.length : Int) - l) with
    | false =>
      rw [if_neg Bool.false_ne_true]
      have ed : dueOf (.str z) y m g = .number := by
        show (if bitsS z = true then (if withinV y 0 ((z.length : Int) + m - 1) = true then _ else _) else _) = _
        rw [hz, if_pos rfl, em, e2, if_neg Bool.false_ne_true]
      exact fun d nd => .inr ⟨rfl, d, .str "at", rfl, upd_same, fun t nt => hd _ _ t ed (fun z => by cases z) (same_new (same_new same_rfl nd) nt) upd_same⟩
    | true =>
      rw [if_pos rfl]
      rintro i rfl
      obtain ⟨j, ej, j0, j1⟩ := within_int e2
      cases ej
      have ed : dueOf (.str z) (.int i) m g = (if g = true then .fine else .none) := by
        show (if bitsS z = true then (if withinV (.int i) 0 ((z.length : Int) + m - 1) = true then _ else _) else _) = _
        rw [hz, if_pos rfl, em, e2, if_pos rfl]
      exact hf z i rfl rfl hz j0 j1 ed
theorem extN_same {H H' : Hp} (s : Same H H') : LamX.ExtN H H' := fun b o e _ => s b o e
section
variable {a : Ad} {σ : L2.St} {H : Hp} {Q : VK} {x y u : V} {Tt : List (Addr × Str)}
theorem rd_turn (h0 : σ[0]? = some (some x)) (h1 : σ[1]? = some (some y)) (Tb : LamX.Tabs Tt H) (hx : Th H x) (sx : Sh x) (hy : Th H y) (k : ∀ H' t, LamX.ExtN H H' → LamX.Tabs Tt H' → H' t = some (.tup (res (dueOf x y 0 true) (turnV x y))) → Q (.ref t) H') :
    LamX.tLam Tt (TTo a.C) (fun E => tCall (spTurn a.C) [] E (tCons (tVar 0) (tCons (tVar 1) tNil))) σ H Q := by
  refine ⟨Tb, fun H1 e1 T1 R hR => ⟨x, h0, y, h1, x, y, rfl, hx.keep (fun b o n e => e1 b o e n), sx, hy.keep (fun b o n e => e1 b o e n), ?_⟩⟩
  refine chk_of (g := true) (m := 0) (by decide) (fun z i ex ey hz i0 i1 ed c hc => hR _ _ fun t nt => ?_) (fun d H' t ed nd s ht => ?_)
  · subst ex; subst ey
    refine k _ t (e1.trans (extN_same (same_new same_rfl nt))) (T1.ext (same_new same_rfl nt)) ?_
    rw [upd_same, ed]
    have e2 : turnV (.str z) (.int i) = turnS z i c := by
      show turnS z i ((atI z.cps.toList i).getD 0) = _
      rw [hc]; rfl
    rw [e2]; rfl
  · refine k _ t (e1.trans (extN_same s)) (T1.ext s) ?_
    rw [ht, ed]
    cases d with
    | fine => exact absurd rfl nd
    | _ => rfl
theorem rd_drop (h0 : σ[0]? = some (some x)) (h1 : σ[1]? = some (some y)) (Tb : LamX.Tabs Tt H) (hx : Th H x) (sx : Sh x) (hy : Th H y) (k : ∀ H' t, LamX.ExtN H H' → LamX.Tabs Tt H' → H' t = some (.tup (res (dueOf x y 0 true) (dropV x y))) → Q (.ref t) H') :
    LamX.tLam Tt (TTo a.C) (fun E => tCall (spDrop a.C) [] E (tCons (tVar 0) (tCons (tVar 1) tNil))) σ H Q := by
  refine ⟨Tb, fun H1 e1 T1 R hR => ⟨x, h0, y, h1, x, y, rfl, hx.keep (fun b o n e => e1 b o e n), sx, hy.keep (fun b o n e => e1 b o e n), ?_⟩⟩
  refine chk_of (g := true) (m := 0) (by decide) (fun z i ex ey hz i0 i1 ed => hR _ _ fun t nt => ?_) (fun d H' t ed nd s ht => ?_)
  · subst ex; subst ey
    refine k _ t (e1.trans (extN_same (same_new same_rfl nt))) (T1.ext (same_new same_rfl nt)) ?_
    rw [upd_same, ed]
    rfl
  · refine k _ t (e1.trans (extN_same s)) (T1.ext s) ?_
    rw [ht, ed]
    cases d with
    | fine => exact absurd rfl nd
    | _ => rfl
theorem rd_put (h0 : σ[0]? = some (some x)) (h1 : σ[1]? = some (some y)) (h2 : σ[2]? = some (some u)) (Tb : LamX.Tabs Tt H) (hx : Th H x) (sx : Sh x) (hy : Th H y) (hu : Th H u) (su : Sh u) (k : ∀ H' t, LamX.ExtN H H' → LamX.Tabs Tt H' → H' t = some (.tup (res (dueOf x y 1 (oneV u)) (putV x y u))) → Q (.ref t) H') :
    LamX.tLam Tt (TTo a.C) (fun E => tCall (spPut a.C) [] E (tCons (tVar 0) (tCons (tVar 1) (tCons (tVar 2) tNil)))) σ H Q := by
  refine ⟨Tb, fun H1 e1 T1 R hR => ⟨x, h0, y, h1, u, h2, x, y, u, rfl, hx.keep (fun b o n e => e1 b o e n), sx, hy.keep (fun b o n e => e1 b o e n), hu.keep (fun b o n e => e1 b o e n), su, ?_⟩⟩
  refine chk_of (g := oneV u) (m := 1) (by decide) (fun z i ex ey hz i0 i1 ed => ?_) (fun d H' t ed nd s ht => ?_)
  · subst ex; subst ey
    cases eu : oneV u with
    | true =>
      rw [if_pos rfl]
      rintro b rfl
      refine hR _ _ fun t nt => ?_
      refine k _ t (e1.trans (extN_same (same_new same_rfl nt))) (T1.ext (same_new same_rfl nt)) ?_
      rw [upd_same, ed, eu, if_pos rfl]
      rfl
    | false =>
      rw [if_neg Bool.false_ne_true]
      refine .inl ⟨rfl, rfl, fun t nt => ?_⟩
      refine k _ t (e1.trans (extN_same (same_new same_rfl nt))) (T1.ext (same_new same_rfl nt)) ?_
      rw [upd_same, ed, eu, if_neg Bool.false_ne_true]
      rfl
  · refine k _ t (e1.trans (extN_same s)) (T1.ext s) ?_
    rw [ht, ed]
    cases d with
    | fine => exact absurd rfl nd
    | _ => rfl
end
end Me
set_option maxHeartbeats 8000000
namespace Me
open PySem L2


theorem Df.okC {P : Program} {w : World} {K : PySem.W.Frag} {mg : Str → Option Value} {base : Heap} {x : Str} {st : Stmt} {ps ps' N : List Str} {d : DA} {k : Nat} {sp : Sp} (D : Df K mg x st ps' d) (S : FnScope N ps (defScope st)) (len : ∀ vs H Q E, sp vs H Q E → vs.length = ps.length)
    (go : ∀ (cdv : Value) (A : Around) (outer : List Env) (s : Shared) (H : Hp) (vs : List V) (Q : VK) (E : XK), d.fd.code = cdv → Room k (A.deeper (PyProof.Rows.envOfC x (defScope st) s.heap.objs.size d.f cdv)) → sp vs H Q E →
      ∃ t, PSs (cxOf CX0 P w K mg base N x (defScope st) d.f cdv A outer s H E).nox (defBody st) t ∧ t { nx := fun _ H' => Q .non H', rt := Q } (start N vs) H) : FnOk P w K mg base CX0 (k + 1) d.f d.fd ps sp := by
  obtain ⟨oc, od, dV, kV, doc, pm, an, cdv, ct, osl, e, lk, hcd, _, _⟩ := D.fn.ex
  have hc : d.fd.code = cdv := by rw [e] <;> rfl
  rw [e] at lk ⊢
  refine fn_of lk hcd S len fun A outer s H vs Q E hr h => ?_
  obtain ⟨t, h1, q⟩ := go cdv A outer s H vs Q E hc hr h
  exact ⟨t, h1.nox, q⟩
def tabs (a : Ad) : List (Addr × Str) := [(a.tp, ("_law_asked" : Str) ++ ".<locals>." ++ "<lambda>")]
theorem chk_yes {C : Nat → Addr} {z : Str} {i l : Int} {E : XK} {ok : Str → Int → Prop} {H : Hp} (hz : bitsS z = true) (i0 : 0 ≤ i) (i1 : i ≤ (z.length : Int) - l) (q : ok z i) : chk C (.str z) (.int i) l E ok H := by
  have e1 : bitsV (.str z) = true := hz
  have e2 : withinV (.int i) 0 ((z.length : Int) - l) = true := by
    show (decide (0 ≤ i) && decide (i ≤ (z.length : Int) - l)) = true
    rw [decide_eq_true i0, decide_eq_true i1]; rfl
  unfold chk
  rw [e1, if_pos rfl]
  intro z' ez
  cases ez
  rw [e2, if_pos rfl]
  intro i' ei
  cases ei
  exact q
theorem eqv_tup {H : Hp} {p q : Addr} {xs : List V} (h1 : H p = some (.tup xs)) (h2 : H q = some (.tup xs)) (f : ∀ x ∈ xs, flatV x = true) (l : xs.length ≤ 1000) : Eqv H 1 (.ref p) (.ref q) := by
  refine .inr ⟨p, q, xs, xs, rfl, rfl, ⟨h1, h2⟩, rfl, l, fun i x y e1 e2 => ?_⟩
  rw [e1] at e2
  cases e2
  exact ⟨rfl, f _ (List.mem_of_getElem? e1)⟩
theorem res_flat {d : Due} {s : Str} : (∀ x ∈ res d s, flatV x = true) ∧ (res d s).length ≤ 1000 := by
  cases d with
  | none => exact ⟨by intro x hx; simp [res, tupOf] at hx; rcases hx with rfl | rfl <;> rfl, by show 2 ≤ 1000; decide⟩
  | number => exact ⟨by intro x hx; simp [res, tupOf] at hx; rcases hx with rfl | rfl | rfl <;> rfl, by show 3 ≤ 1000; decide⟩
  | fine => exact ⟨by intro x hx; simp [res] at hx; rcases hx with rfl | rfl <;> rfl, by show 2 ≤ 1000; decide⟩
theorem res_bad {d : Due} {s : Str} (h : d ≠ .fine) : res d s = tupOf d := by
  cases d with
  | fine => exact absurd rfl h
  | _ => rfl
/-! ### there and back -/
theorem put_drop {z b : Str} {k : Nat} (hk : k ≤ z.length) (hb : oneV (.str b) = true) : dropS (putS z (k : Int) b) (k : Int) = z := by
  obtain ⟨c, eb, _⟩ := one_l hb
  have ar : Around1 (putS z (k : Int) b) k (z.cps.toList.take k) c (z.cps.toList.drop k) := ⟨by rw [tl_put, eb]; rfl, by rw [List.length_take, len_l]; omega⟩
  exact str_ext (by rw [ar.drop, List.take_append_drop])
theorem put_len {z b : Str} {k : Nat} (hk : k ≤ z.length) (hb : oneV (.str b) = true) : (putS z (k : Int) b).length = z.length + 1 := by
  obtain ⟨c, eb, _⟩ := one_l hb
  rw [← len_l, tl_put, eb, ← len_l z]
  rw [← len_l] at hk
  simp only [List.length_append, List.length_take, List.length_drop, List.length_cons, List.length_nil]
  omega
theorem put_bits {z b : Str} {k : Nat} (hz : bitsS z = true) (hb : oneV (.str b) = true) : bitsS (putS z (k : Int) b) = true := by
  obtain ⟨c, eb, hc⟩ := one_l hb
  rw [bits_l] at hz ⊢
  rw [tl_put, eb, List.all_append, List.all_append]
  have h1 : (z.cps.toList.take k).all bitB = true := List.all_eq_true.mpr fun x hx => List.all_eq_true.mp hz x (List.mem_of_mem_take hx)
  have h2 : (z.cps.toList.drop k).all bitB = true := List.all_eq_true.mpr fun x hx => List.all_eq_true.mp hz x (List.mem_of_mem_drop hx)
  rw [h1, h2]
  simp [hc]
section
variable {z : Str} {k c : Nat} {A B : List Nat}
theorem Around1.bits (h : Around1 z k A c B) (hz : bitsS z = true) : A.all bitB = true ∧ bitB c = true ∧ B.all bitB = true := by
  rw [bits_l, h.e, List.all_append, List.all_cons] at hz
  obtain ⟨h1, h2⟩ := Bool.and_eq_true_iff.mp hz
  obtain ⟨h3, h4⟩ := Bool.and_eq_true_iff.mp h2
  exact ⟨h1, h3, h4⟩
theorem Around1.turned (h : Around1 z k A c B) : Around1 (turnS z (k : Int) c) k A (fl c) B := ⟨h.turn c, h.l⟩
theorem Around1.turn_bits (h : Around1 z k A c B) (hz : bitsS z = true) : bitsS (turnS z (k : Int) c) = true := by
  obtain ⟨h1, h2, h3⟩ := h.bits hz
  rw [bits_l, h.turn, List.all_append, List.all_cons, h1, h3, fl_bit]; rfl
theorem Around1.turn_back (h : Around1 z k A c B) (hz : bitsS z = true) : turnS (turnS z (k : Int) c) (k : Int) (fl c) = z := str_ext (by rw [h.turned.turn, fl_fl (h.bits hz).2.1, h.e])
theorem Around1.drop_bits (h : Around1 z k A c B) (hz : bitsS z = true) : bitsS (dropS z (k : Int)) = true := by
  obtain ⟨h1, h2, h3⟩ := h.bits hz
  rw [bits_l, h.drop, List.all_append, h1, h3]; rfl
theorem Around1.drop_len (h : Around1 z k A c B) : (dropS z (k : Int)).length = A.length + B.length := by rw [← len_l, h.drop, List.length_append]
theorem Around1.put_back (h : Around1 z k A c B) : putS (dropS z (k : Int)) (k : Int) ⟨#[c]⟩ = z := str_ext (by
  rw [tl_put, h.drop, h.e, ← h.l]
  simp)
theorem Around1.one (h : Around1 z k A c B) (hz : bitsS z = true) : oneV (.str ⟨#[c]⟩) = true := by
  have hc := (h.bits hz).2.1
  show (bitsS ⟨#[c]⟩ && decide ((⟨#[c]⟩ : Str).length = 1)) = true
  have e : bitsS ⟨#[c]⟩ = true := by rw [bits_l]; simp [hc]
  rw [e]; rfl
end
/-! ### the rest of the asking, behind the join -/
abbrev tCat (ta tb : TE) : TE := tOp (fun x y H Q => ∃ i j, x = V.str i ∧ y = V.str j ∧ i.length + j.length ≤ sizeLine ∧ Q (V.str (i ++ j)) H) ta tb
def tL2 (K : PySem.W.Frag) (a : Ad) : TS := tSeq (tAsg (tCall spDue [] E0 (tCons (tVar 0) (tCons (tVar 1) (tCons (tC (V.int 1)) (tCons (tAndV (tCall spLBits [] E0 (tCons (tVar 2) tNil)) (tOp rEq (tCB (fun xs H Q => ∃ z, xs = [V.str z] ∧ z.length ≤ sizeLine ∧ Q (V.int (z.length : Int)) H) (tCons (tVar 2) tNil)) (tC (V.int 1)))) tNil))))) (gName 6))
  (tSeq (tIfS (tTest (tOp (fun x y H Q => y = V.non ∧ Q (V.bl !decide (x = V.non)) H) (tVar 6) (tC V.non))) (tRet (tCall (spSame 1) [] E0 (tCons (tVar 5) (tCons (tVar 6) tNil)))) tNext)
    (tRet (tAndV (tCall (spSame 1) [] E0 (tCons (tVar 5) (tCons (tTup (tCons (tC (V.str "told")) (tCons (tCat (tCat (tSl rSlS (tVar 0) tNoPart (tPart (tVar 1))) (tVar 2)) (tSl rSlS (tVar 0) (tPart (tVar 1)) tNoPart)) tNil))) tNil)))
      (tOp rEq (tCall (spDrop a.C) [] E0 (tCons (tOp (rIxT K) (tVar 5) (tC (V.int 1))) (tCons (tVar 1) tNil))) (tVar 0)))))
section
variable {P : Program} {w : World} {K : PySem.W.Frag} {mg : Str → Option Value} {base : Heap} {a : Ad}
def spAsked (a : Ad) : Sp := fun vs H Q _ => ∃ (x y u : V), vs = [x, y, u] ∧ Th H x ∧ (∀ z, x = .str z → z.length ≤ 5000) ∧ Th H y ∧ Th H u ∧ Sh u ∧ LamX.Tabs (tabs a) H ∧ ∀ H', LamX.ExtN H H' → LamX.Tabs (tabs a) H' → Q (.bl true) H'
theorem ok_L2 {x y u : V} {t1 t2 t3 : Addr} {v6 v7 : Option V} {H : Hp} {Q : VK} (hx : Th H x) (sx5 : ∀ z, x = .str z → z.length ≤ 5000) (hy : Th H y) (hu : Th H u) (su : Sh u) (h3 : H t3 = some (.tup (res (dueOf x y 1 (oneV u)) (putV x y u)))) (k : ∀ H', Same H H' → Q (.bl true) H') :
    tL2 K a { nx := fun _ H' => Q .non H', rt := Q } [some x, some y, some u, some (.ref t1), some (.ref t2), some (.ref t3), v6, v7] H := by
  have sx : Sh x := fun z e => Nat.le_trans (sx5 z e) (by decide)
  unfold tL2
  walk_at "go"
  refine ⟨u, rfl, hu, su, fun H1 s1 => ?_⟩
  have hx1 := hx.same s1
  have hy1 := hy.same s1
  have h31 := s1 _ _ h3
  have k1 : ∀ H', Same H1 H' → Q (.bl true) H' := fun H' s => k H' fun b o e => s b o (s1 b o e)
  have main : ∀ g, g = oneV u → spDue [x, y, .int 1, .bl g] H1 (fun v H2 => (gName 6) v [some x, some y, some u, some (.ref t1), some (.ref t2), some (.ref t3), v6, v7] H2 fun σ3 H3 => (tSeq (tIfS (tTest (tOp (fun x y H Q => y = V.non ∧ Q (V.bl !decide (x = V.non)) H) (tVar 6) (tC V.non))) (tRet (tCall (spSame 1) [] E0 (tCons (tVar 5) (tCons (tVar 6) tNil)))) tNext)
    (tRet (tAndV (tCall (spSame 1) [] E0 (tCons (tVar 5) (tCons (tTup (tCons (tC (V.str "told")) (tCons (tCat (tCat (tSl rSlS (tVar 0) tNoPart (tPart (tVar 1))) (tVar 2)) (tSl rSlS (tVar 0) (tPart (tVar 1)) tNoPart)) tNil))) tNil)))
      (tOp rEq (tCall (spDrop a.C) [] E0 (tCons (tOp (rIxT K) (tVar 5) (tC (V.int 1))) (tCons (tVar 1) tNil))) (tVar 0))))) { nx := fun _ H' => Q .non H', rt := Q } σ3 H3) E0 := by
    rintro g rfl
    refine ⟨x, y, 1, oneV u, rfl, hx1, sx, hy1, fun H2 s2 => ⟨fun ef => ?_, fun d t ed nd ht => ?_⟩⟩
    · obtain ⟨z, i, rfl, rfl, hz, i0, i1, hg⟩ := due_fine ef
      obtain ⟨b, rfl⟩ : ∃ b, u = .str b := by
        cases u with
        | str b => exact ⟨b, rfl⟩
        | _ => cases hg
      obtain ⟨kk, rfl⟩ := Int.eq_ofNat_of_zero_le i0
      have lz := sx5 z rfl
      have lz9 := sx z rfl
      have hk : kk ≤ z.length := by omega
      have lb : b.length = 1 := of_decide_eq_true (Bool.and_eq_true_iff.mp (show (bitsS b && decide (b.length = 1)) = true from hg)).2
      have a1 := cut_le lz none (some (kk : Int))
      have a2 := cut_le lz (some (kk : Int)) none
      have h32 := s2 _ _ h31
      rw [ef] at h32
      walk_at "go3"
      refine i_slT rfl rfl lz9 ?_
      walk_at "go3"
      refine ⟨_, _, rfl, rfl, Nat.le_trans (Nat.add_le_add a1 (Nat.le_of_eq lb)) (by decide), ?_⟩
      refine i_slF rfl rfl lz9 ?_
      refine ⟨_, _, rfl, rfl, ?_, ?_⟩
      · rw [PySem.Str.length_append]
        exact Nat.le_trans (Nat.add_le_add (Nat.add_le_add a1 (Nat.le_of_eq lb)) a2) (by decide)
      walk_at "go3"
      rename_i tn ntn
      have h33 : upd H2 tn (.tup [.str "told", .str (putS z (kk : Int) b)]) t3 = some (.tup [.str "told", .str (putS z (kk : Int) b)]) := by
        rw [upd_ne (ne_of_none h32 ntn)]; exact h32
      refine ⟨_, _, rfl, eqv_tup (xs := [.str "told", .str (putS z (kk : Int) b)]) h33 upd_same (res_flat (d := .fine)).1 (res_flat (d := .fine) (s := putS z (kk : Int) b)).2, ?_⟩
      walk_at "go3"
      refine ⟨.str (putS z (kk : Int) b), .int (kk : Int), rfl, .str _, (fun z' e => by cases e; rw [put_len hk hg]; omega), .int _, chk_yes (put_bits hz hg) i0 (by rw [put_len hk hg]; omega) ?_⟩
      walk_at "go3"
      rw [put_drop hk hg, decide_eq_true rfl]
      exact k1 _ (same_new s2 ntn)
    · walk_at "go3"
      have h32 := s2 _ _ h31
      rw [ed, res_bad nd] at h32
      refine ⟨_, _, rfl, eqv_tup h32 ht ?_ ?_, k1 _ s2⟩
      · rw [← res_bad (s := "") nd]; exact res_flat.1
      · rw [← res_bad (s := "") nd]; exact res_flat.2
  cases u with
  | str b =>
    cases hb : bitsS b with
    | true =>
      refine ⟨true, congrArg V.bl (show bitsV (.str b) = true from hb), i_yes rfl ?_⟩
      walk_at "go3"
      refine ⟨b, rfl, Nat.le_trans (su b rfl) (by decide), ?_⟩
      walk_at "go3"
      have e : decide (V.int (b.length : Int) = V.int 1) = oneV (.str b) := by
        show _ = (bitsS b && decide (b.length = 1))
        rw [hb, Bool.true_and]
        by_cases q : b.length = 1
        · rw [decide_eq_true q, q]; exact decide_eq_true rfl
        · rw [decide_eq_false q]; exact decide_eq_false fun e => q (by have := V.int.inj e; omega)
      exact main _ e
    | false =>
      refine ⟨false, congrArg V.bl (show bitsV (.str b) = false from hb), i_no rfl ?_⟩
      refine main false ?_
      show _ = (bitsS b && decide (b.length = 1))
      rw [hb]; rfl
  | _ => exact ⟨false, rfl, i_no rfl (main false rfl)⟩
theorem ok_asked (T : Txt P K mg a) (TB : LamX.TabB base mg a.tc a.tp) : FnOk P w K mg base CX0 7 a._law_asked.f a._law_asked.fd ["_law_bits", "_law_at", "_law_bit"] (spAsked a) := by
  have GT : FnOk P w K mg base (L2.CX P w) 4 a.turned.f a.turned.fd ["bits", "at"] (spTurn a.C) := ok_turned T
  have GD : FnOk P w K mg base (L2.CX P w) 4 a.dropped.f a.dropped.fd ["bits", "at"] (spDrop a.C) := ok_dropped T
  have GP : FnOk P w K mg base (L2.CX P w) 4 a.put.f a.put.fd ["bits", "at", "bit"] (spPut a.C) := ok_put T
  have G__law_one_due : FnOk P w K mg base CX0 3 a._law_one_due.f a._law_one_due.fd ["_law_bits", "_law_at", "_law_more", "_law_good"] spDue := ok_due T
  have G__law_same : FnOk P w K mg base CX0 3 a._law_same.f a._law_same.fd ["_law_told", "_law_due"] (spSame 1) := ok_same T 1
  have G__law_is_bits : FnOk P w K mg base CX0 1 a._law_is_bits.f a._law_is_bits.fd ["_law_told"] spLBits := ok_lbits T
  obtain ⟨oc, od, dV, kV, doc, pm, an, cdvO, ct, osl, eO, lkO, hcO, _, _⟩ := T._law_outcome.fn.ex
  have hbO := T._law_outcome.b
  rw [eO] at lkO hbO
  have scO : FnScope NO ["_law_call"] (defScope (top 21)) := ⟨rfl, rfl, rfl, by decide +kernel, rfl, by decide +kernel, by decide +kernel⟩
  have sc : FnScope ["_law_bits", "_law_at", "_law_bit", "_law_one", "_law_two", "_law_three", "_law_due", "_law_other"] ["_law_bits", "_law_at", "_law_bit"] (defScope (top 24)) := ⟨rfl, rfl, rfl, by decide +kernel, rfl, by decide +kernel, by decide +kernel⟩
  refine T._law_asked.okC sc (fun vs H Q E h => ?_) (fun cdv A outer s H vs Q E hcode hr h => ?_)
  · obtain ⟨x, y, u, rfl, _⟩ := h
    rfl
  · obtain ⟨x, y, u, rfl, hx, sx5, hy, hu, su, Tb, k⟩ := h
    have sx : Sh x := fun z e => Nat.le_trans (sx5 z e) (by decide)
    rw [T.code] at hcode
    subst hcode
    have hcode : (cxOf CX0 P w K mg base ["_law_bits", "_law_at", "_law_bit", "_law_one", "_law_two", "_law_three", "_law_due", "_law_other"] "_law_asked" (defScope (top 24)) a._law_asked.f (.ref a.tc) A outer s H E).nox.env.code = .ref a.tc := rfl
    refine ⟨_, (pss_cons (ps_set (i := 3) sc.nd rfl (by first | exact Or.inl rfl | exact Or.inr rfl) (LamX.pe_lamcall (k := 4) (T := tabs a) (TT := TTo a.C) (t := fun E => tCall (spTurn a.C) [] E (tCons (tVar 0) (tCons (tVar 1) tNil))) rfl T._law_outcome.mg T._law_outcome.kp lkO hcO hbO scO rfl (Or.inl rfl) (outcome_gives T) TB hcode (List.mem_singleton.mpr rfl) (fun p hp _ => by rw [List.mem_singleton.mp hp]; rfl) (hr.mono (by decide)) (LamX.lamS_by (sc := defScope (top 24)) (by decide +kernel)) rfl (fun _ _ _ _ _ => rfl) (fun A' outer' s' H' E' f' c' hr' => (by exact (pe_call GT hr' rfl T.turned.mg T.turned.kp T.turned.b .nil (passes_call (takes_of rfl rfl rfl rfl) (fun _ _ _ _ h => h)) (pa_cons (pv 0) (pa_cons (pv 1) pa_nil)))))))
      (pss_cons (ps_set (i := 4) sc.nd rfl (by first | exact Or.inl rfl | exact Or.inr rfl) (LamX.pe_lamcall (k := 4) (T := tabs a) (TT := TTo a.C) (t := fun E => tCall (spDrop a.C) [] E (tCons (tVar 0) (tCons (tVar 1) tNil))) rfl T._law_outcome.mg T._law_outcome.kp lkO hcO hbO scO rfl (Or.inl rfl) (outcome_gives T) TB hcode (List.mem_singleton.mpr rfl) (fun p hp _ => by rw [List.mem_singleton.mp hp]; rfl) (hr.mono (by decide)) (LamX.lamS_by (sc := defScope (top 24)) (by decide +kernel)) rfl (fun _ _ _ _ _ => rfl) (fun A' outer' s' H' E' f' c' hr' => (by exact (pe_call GD hr' rfl T.dropped.mg T.dropped.kp T.dropped.b .nil (passes_call (takes_of rfl rfl rfl rfl) (fun _ _ _ _ h => h)) (pa_cons (pv 0) (pa_cons (pv 1) pa_nil)))))))
      (pss_cons (ps_set (i := 5) sc.nd rfl (by first | exact Or.inl rfl | exact Or.inr rfl) (LamX.pe_lamcall (k := 4) (T := tabs a) (TT := TTo a.C) (t := fun E => tCall (spPut a.C) [] E (tCons (tVar 0) (tCons (tVar 1) (tCons (tVar 2) tNil)))) rfl T._law_outcome.mg T._law_outcome.kp lkO hcO hbO scO rfl (Or.inl rfl) (outcome_gives T) TB hcode (List.mem_singleton.mpr rfl) (fun p hp _ => by rw [List.mem_singleton.mp hp]; rfl) (hr.mono (by decide)) (LamX.lamS_by (sc := defScope (top 24)) (by decide +kernel)) rfl (fun _ _ _ _ _ => rfl) (fun A' outer' s' H' E' f' c' hr' => (by exact (pe_call GP hr' rfl T.put.mg T.put.kp T.put.b .nil (passes_call (takes_of rfl rfl rfl rfl) (fun _ _ _ _ h => h)) (pa_cons (pv 0) (pa_cons (pv 1) (pa_cons (pv 2) pa_nil))))))))
      (pss_cons (ps_set (i := 6) sc.nd rfl (by first | exact Or.inl rfl | exact Or.inr rfl) (pe_call G__law_one_due (hr.mono (by first | decide | omega)) rfl T._law_one_due.mg T._law_one_due.kp T._law_one_due.b .nil pass0 (pa_cons (pv 0) (pa_cons (pv 1) (pa_cons pe_int (pa_cons pe_bl pa_nil))))))
      (pss_cons (ps_if (pt_cmpR op_notN (pv 6) pe_non (nomark _))
      (pss_one (ps_if (PW.pt (pw_or (pt_not (pt_val (pe_call G__law_same (hr.mono (by first | decide | omega)) rfl T._law_same.mg T._law_same.kp T._law_same.b .nil pass0 (pa_cons (pv 3) (pa_cons (pv 6) pa_nil))))) (pw_or1 (pt_not (pt_val (pe_call G__law_same (hr.mono (by first | decide | omega)) rfl T._law_same.mg T._law_same.kp T._law_same.b .nil pass0 (pa_cons (pv 4) (pa_cons (pv 6) pa_nil))))))))
      (pss_one (ps_ret pe_bl))
      pss_nil))
      (pss_cons (ps_set (i := 7) sc.nd rfl (by first | exact Or.inl rfl | exact Or.inr rfl) (pe_ifExp (pt_cmpR op_eq (pe_ix ix_str (pv 0) (pv 1) (fun _ _ => rfl)) pe_str (nomark _)) pe_str pe_str))
      (pss_cons (ps_if (pt_not (pt_val (pe_call G__law_same (hr.mono (by first | decide | omega)) rfl T._law_same.mg T._law_same.kp T._law_same.b .nil pass0 (pa_cons (pv 3) (pa_cons (pe_tup (pa_cons pe_str (pa_cons (pe_op op_add_str (pe_op op_add_str (pe_slice sl_str (pv 0) po_none (po_some (pv 1))) (pv 7)) (pe_slice sl_str (pv 0) (po_some (pe_op op_add (pv 1) pe_int)) po_none)) pa_nil))) pa_nil)))))
      (pss_one (ps_ret pe_bl))
      pss_nil)
      (pss_cons (ps_if (pt_not (pt_val (pe_call G__law_same (hr.mono (by first | decide | omega)) rfl T._law_same.mg T._law_same.kp T._law_same.b .nil pass0 (pa_cons (pv 4) (pa_cons (pe_tup (pa_cons pe_str (pa_cons (pe_op op_add_str (pe_slice sl_str (pv 0) po_none (po_some (pv 1))) (pe_slice sl_str (pv 0) (po_some (pe_op op_add (pv 1) pe_int)) po_none)) pa_nil))) pa_nil)))))
      (pss_one (ps_ret pe_bl))
      pss_nil)
      (pss_one (ps_if (PW.pt (pw_or (pt_cmpR op_ne (pe_call GT (hr.mono (by decide)) rfl T.turned.mg T.turned.kp T.turned.b .nil passL (pa_cons (pe_ix ix_tup (pv 3) pe_int (fun _ _ => rfl)) (pa_cons (pv 1) pa_nil))) (pv 0) (nomark _)) (pw_or1 (pt_cmpR op_ne (pe_call GP (hr.mono (by decide)) rfl T.put.mg T.put.kp T.put.b .nil passL (pa_cons (pe_ix ix_tup (pv 4) pe_int (fun _ _ => rfl)) (pa_cons (pv 1) (pa_cons (pe_ix ix_str (pv 0) (pv 1) (fun _ _ => rfl)) pa_nil)))) (pv 0) (nomark _)))))
      (pss_one (ps_ret pe_bl))
      pss_nil))))))
      (pss_cons (ps_set (i := 6) sc.nd rfl (by first | exact Or.inl rfl | exact Or.inr rfl) (pe_call G__law_one_due (hr.mono (by first | decide | omega)) rfl T._law_one_due.mg T._law_one_due.kp T._law_one_due.b .nil pass0 (pa_cons (pv 0) (pa_cons (pv 1) (pa_cons pe_int (pa_cons (pe_and (pe_call G__law_is_bits (hr.mono (by first | decide | omega)) rfl T._law_is_bits.mg T._law_is_bits.kp T._law_is_bits.b .nil pass0 (pa_cons (pv 2) pa_nil)) (pe_one (pe_cmpR op_eq (pe_callB call_len_str (by rfl) T.len PySem.boot_len (pa_cons (pv 2) pa_nil)) pe_int (nomark _)))) pa_nil))))))
      (pss_cons (ps_if (pt_cmpR op_notN (pv 6) pe_non (nomark _))
      (pss_one (ps_ret (pe_call G__law_same (hr.mono (by first | decide | omega)) rfl T._law_same.mg T._law_same.kp T._law_same.b .nil pass0 (pa_cons (pv 5) (pa_cons (pv 6) pa_nil)))))
      pss_nil)
      (pss_one (ps_ret (pe_and (pe_call G__law_same (hr.mono (by first | decide | omega)) rfl T._law_same.mg T._law_same.kp T._law_same.b .nil pass0 (pa_cons (pv 5) (pa_cons (pe_tup (pa_cons pe_str (pa_cons (pe_op op_add_str (pe_op op_add_str (pe_slice sl_str (pv 0) po_none (po_some (pv 1))) (pv 2)) (pe_slice sl_str (pv 0) (po_some (pv 1)) po_none)) pa_nil))) pa_nil))) (pe_one (pe_cmpR op_eq (pe_call GD (hr.mono (by decide)) rfl T.dropped.mg T.dropped.kp T.dropped.b .nil passL (pa_cons (pe_ix ix_tup (pv 5) pe_int (fun _ _ => rfl)) (pa_cons (pv 1) pa_nil))) (pv 0) (nomark _))))))))))))), ?_⟩
    walk_at "go"
    refine rd_turn rfl rfl Tb hx sx hy fun H1 t1 e1 T1 h1 => ?_
    have hx1 := hx.keep fun b o n e => e1 b o e n
    have hy1 := hy.keep fun b o n e => e1 b o e n
    have hu1 := hu.keep fun b o n e => e1 b o e n
    walk_at "go"
    refine rd_drop rfl rfl T1 hx1 sx hy1 fun H2 t2 e2 T2 h2 => ?_
    have hx2 := hx1.keep fun b o n e => e2 b o e n
    have hy2 := hy1.keep fun b o n e => e2 b o e n
    have hu2 := hu1.keep fun b o n e => e2 b o e n
    walk_at "go"
    refine rd_put rfl rfl rfl T2 hx2 sx hy2 hu2 su fun H3 t3 e3 T3 h3 => ?_
    have hx3 := hx2.keep fun b o n e => e3 b o e n
    have hy3 := hy2.keep fun b o n e => e3 b o e n
    have hu3 := hu2.keep fun b o n e => e3 b o e n
    have h13 := e3 _ _ (e2 _ _ h1 fun _ z => by cases z) fun _ z => by cases z
    have h23 := e3 _ _ h2 fun _ z => by cases z
    walk_at "go"
    have fin : ∀ (H4 : Hp) (v6 v7 : Option V), Same H3 H4 → tL2 K a { nx := fun _ H' => Q .non H', rt := Q } [some x, some y, some u, some (.ref t1), some (.ref t2), some (.ref t3), v6, v7] H4 := fun H4 v6 v7 s4 =>
      ok_L2 (hx3.same s4) sx5 (hy3.same s4) (hu3.same s4) su (s4 _ _ h3) fun H5 s5 => k H5 ((e1.trans e2).trans (e3.trans (extN_same fun b o e => s5 b o (s4 b o e)))) (T3.ext fun b o e => s5 b o (s4 b o e))
    refine ⟨x, y, 0, true, rfl, hx3, sx, hy3, fun H4 s4 => ⟨fun ef => ?_, fun d t ed nd ht => ?_⟩⟩
    · obtain ⟨z, i, rfl, rfl, hz, i0, i1, _⟩ := due_fine ef
      obtain ⟨kk, rfl⟩ := Int.eq_ofNat_of_zero_le i0
      have lz := sx5 z rfl
      have lz9 := sx z rfl
      have hk : kk < z.length := by omega
      obtain ⟨As, c, Bs, ar⟩ := around hk
      have a1 := cut_le lz none (some (kk : Int))
      have a2 := cut_le lz (some ((kk : Int) + 1)) none
      have eT : turnV (.str z) (.int (kk : Int)) = turnS z (kk : Int) c := by
        show turnS z (kk : Int) ((atI z.cps.toList (kk : Int)).getD 0) = _
        rw [ar.at]; rfl
      have h14 := s4 _ _ h13
      have h24 := s4 _ _ h23
      rw [ef, eT] at h14
      rw [ef] at h24
      have h14 : H4 t1 = some (.tup [.str "told", .str (turnS z (kk : Int) c)]) := h14
      have h24 : H4 t2 = some (.tup [.str "told", .str (dropS z (kk : Int))]) := h24
      have lenT : (turnS z (kk : Int) c).length = z.length := by rw [ar.turned.len, ar.len]
      have shT : Sh (.str (turnS z (kk : Int) c)) := fun z' e => by cases e; rw [lenT]; exact lz9
      have lT : (kk : Int) ≤ ((turnS z (kk : Int) c).length : Int) - 1 := by rw [lenT]; omega
      have lenD : (dropS z (kk : Int)).length + 1 = z.length := by rw [ar.drop_len, ar.len]; omega
      have shD : Sh (.str (dropS z (kk : Int))) := fun z' e => by cases e; omega
      have lD : (kk : Int) ≤ ((dropS z (kk : Int)).length : Int) - 0 := by omega
      walk_at "go3"
      refine ⟨z, (kk : Int), c, rfl, rfl, Nat.le_trans lz9 (by decide), ar.at, ?_⟩
      walk_at "go3"
      refine i_itd (fun h => ?_) (fun h => ?_)
      · have hT : cutS z none (some (kk : Int)) ++ "1" ++ cutS z (some ((kk : Int) + 1)) none = turnS z (kk : Int) c := by unfold turnS flipS; rw [if_pos h]
        walk_at "go3"
        refine i_slT rfl rfl lz9 ?_
        walk_at "go3"
        refine ⟨_, _, rfl, rfl, Nat.le_trans (Nat.add_le_add a1 (Nat.le_refl 1)) (by decide), ?_⟩
        refine i_slF1 rfl rfl lz9 ?_
        refine ⟨_, _, rfl, rfl, ?_, ?_⟩
        · rw [PySem.Str.length_append]
          exact Nat.le_trans (Nat.add_le_add (Nat.add_le_add a1 (Nat.le_refl 1)) a2) (by decide)
        walk_at "go3"
        rename_i n1 hn1
        generalize hH5 : upd H4 n1 _ = H5
        have s5 : Same H4 H5 := by rw [← hH5]; exact same_new same_rfl hn1
        have g5 : H5 n1 = some (.tup [.str "told", .str (turnS z (kk : Int) c)]) := by rw [← hH5, upd_same, hT]
        refine ⟨_, _, rfl, eqv_tup (s5 _ _ h14) g5 (res_flat (d := .fine)).1 (res_flat (d := .fine) (s := turnS z (kk : Int) c)).2, ?_⟩
        walk_at "go3"
        refine i_slT rfl rfl lz9 ?_
        walk_at "go3"
        refine i_slF1 rfl rfl lz9 ?_
        refine ⟨_, _, rfl, rfl, Nat.le_trans (Nat.add_le_add a1 a2) (by decide), ?_⟩
        walk_at "go3"
        rename_i n2 hn2
        generalize hH6 : upd H5 n2 _ = H6
        have s6 : Same H5 H6 := by rw [← hH6]; exact same_new same_rfl hn2
        have g6 : H6 n2 = some (.tup [.str "told", .str (dropS z (kk : Int))]) := by rw [← hH6, upd_same]; rfl
        refine ⟨_, _, rfl, eqv_tup (s6 _ _ (s5 _ _ h24)) g6 (res_flat (d := .fine)).1 (res_flat (d := .fine) (s := dropS z (kk : Int))).2, ?_⟩
        walk_at "go3"
        refine i_ixt (s6 _ _ (s5 _ _ h14)) (atI_nat (j := 1) rfl) ?_
        walk_at "go3"
        refine ⟨.str (turnS z (kk : Int) c), .int (kk : Int), rfl, .str _, shT, .int _, chk_yes (ar.turn_bits hz) i0 lT (fun c' hc' => ?_)⟩
        obtain rfl : fl c = c' := Option.some.inj (ar.turned.at.symm.trans hc')
        walk_at "go3"
        refine i_no (by rw [ar.turn_back hz, decide_eq_true rfl]; rfl) ?_
        walk_at "go3"
        refine i_ixt (s6 _ _ (s5 _ _ h24)) (atI_nat (j := 1) rfl) ?_
        walk_at "go3"
        refine ⟨z, (kk : Int), c, rfl, rfl, Nat.le_trans lz9 (by decide), ar.at, ?_⟩
        walk_at "go3"
        refine ⟨.str (dropS z (kk : Int)), .int (kk : Int), .str ⟨#[c]⟩, rfl, .str _, shD, .int _, .str _, (fun z' e => by cases e; show 1 ≤ 9000; decide), chk_yes (ar.drop_bits hz) i0 lD ?_⟩
        rw [ar.one hz, if_pos rfl]
        intro b' eb
        cases eb
        walk_at "go3"
        refine i_no (by rw [ar.put_back, decide_eq_true rfl]; rfl) ?_
        walk_at "go3"
        obtain ⟨v0, w0, v1, w1, v2, w2, q⟩ := fin H6 (some V.non) (some (V.str "1")) fun b o e => s6 b o (s5 b o (s4 b o e))
        cases w0
        cases w1
        cases w2
        exact q
      · have hT : cutS z none (some (kk : Int)) ++ "0" ++ cutS z (some ((kk : Int) + 1)) none = turnS z (kk : Int) c := by unfold turnS flipS; rw [if_neg h]
        walk_at "go3"
        refine i_slT rfl rfl lz9 ?_
        walk_at "go3"
        refine ⟨_, _, rfl, rfl, Nat.le_trans (Nat.add_le_add a1 (Nat.le_refl 1)) (by decide), ?_⟩
        refine i_slF1 rfl rfl lz9 ?_
        refine ⟨_, _, rfl, rfl, ?_, ?_⟩
        · rw [PySem.Str.length_append]
          exact Nat.le_trans (Nat.add_le_add (Nat.add_le_add a1 (Nat.le_refl 1)) a2) (by decide)
        walk_at "go3"
        rename_i n1 hn1
        generalize hH5 : upd H4 n1 _ = H5
        have s5 : Same H4 H5 := by rw [← hH5]; exact same_new same_rfl hn1
        have g5 : H5 n1 = some (.tup [.str "told", .str (turnS z (kk : Int) c)]) := by rw [← hH5, upd_same, hT]
        refine ⟨_, _, rfl, eqv_tup (s5 _ _ h14) g5 (res_flat (d := .fine)).1 (res_flat (d := .fine) (s := turnS z (kk : Int) c)).2, ?_⟩
        walk_at "go3"
        refine i_slT rfl rfl lz9 ?_
        walk_at "go3"
        refine i_slF1 rfl rfl lz9 ?_
        refine ⟨_, _, rfl, rfl, Nat.le_trans (Nat.add_le_add a1 a2) (by decide), ?_⟩
        walk_at "go3"
        rename_i n2 hn2
        generalize hH6 : upd H5 n2 _ = H6
        have s6 : Same H5 H6 := by rw [← hH6]; exact same_new same_rfl hn2
        have g6 : H6 n2 = some (.tup [.str "told", .str (dropS z (kk : Int))]) := by rw [← hH6, upd_same]; rfl
        refine ⟨_, _, rfl, eqv_tup (s6 _ _ (s5 _ _ h24)) g6 (res_flat (d := .fine)).1 (res_flat (d := .fine) (s := dropS z (kk : Int))).2, ?_⟩
        walk_at "go3"
        refine i_ixt (s6 _ _ (s5 _ _ h14)) (atI_nat (j := 1) rfl) ?_
        walk_at "go3"
        refine ⟨.str (turnS z (kk : Int) c), .int (kk : Int), rfl, .str _, shT, .int _, chk_yes (ar.turn_bits hz) i0 lT (fun c' hc' => ?_)⟩
        obtain rfl : fl c = c' := Option.some.inj (ar.turned.at.symm.trans hc')
        walk_at "go3"
        refine i_no (by rw [ar.turn_back hz, decide_eq_true rfl]; rfl) ?_
        walk_at "go3"
        refine i_ixt (s6 _ _ (s5 _ _ h24)) (atI_nat (j := 1) rfl) ?_
        walk_at "go3"
        refine ⟨z, (kk : Int), c, rfl, rfl, Nat.le_trans lz9 (by decide), ar.at, ?_⟩
        walk_at "go3"
        refine ⟨.str (dropS z (kk : Int)), .int (kk : Int), .str ⟨#[c]⟩, rfl, .str _, shD, .int _, .str _, (fun z' e => by cases e; show 1 ≤ 9000; decide), chk_yes (ar.drop_bits hz) i0 lD ?_⟩
        rw [ar.one hz, if_pos rfl]
        intro b' eb
        cases eb
        walk_at "go3"
        refine i_no (by rw [ar.put_back, decide_eq_true rfl]; rfl) ?_
        walk_at "go3"
        obtain ⟨v0, w0, v1, w1, v2, w2, q⟩ := fin H6 (some V.non) (some (V.str "0")) fun b o e => s6 b o (s5 b o (s4 b o e))
        cases w0
        cases w1
        cases w2
        exact q
    · have h14 := s4 _ _ h13
      have h24 := s4 _ _ h23
      rw [ed, res_bad nd] at h14 h24
      have f1 : (∀ x ∈ tupOf d, flatV x = true) ∧ (tupOf d).length ≤ 1000 := by rw [← res_bad (s := "") nd]; exact res_flat
      walk_at "go3"
      refine ⟨_, _, rfl, eqv_tup h14 ht f1.1 f1.2, ?_⟩
      walk_at "go3"
      refine ⟨_, _, rfl, eqv_tup h24 ht f1.1 f1.2, ?_⟩
      walk_at "go3"
      obtain ⟨v0, w0, v1, w1, v2, w2, q⟩ := fin H4 (some (V.ref t)) none s4
      cases w0
      cases w1
      cases w2
      exact q
end
end Me
set_option maxHeartbeats 8000000
namespace Me
open PySem L2


/-- a thing that the law hands on -/
structure Dn (p : Addr) (H : Hp) (v : V) : Prop where
  th : Th H v
  np : v ≠ .ref p
  sh : ∀ z, v = .str z → z.length ≤ 5000
theorem Dn.went {p : Addr} {H H' : Hp} {v : V} (d : Dn p H v) (w : Went p H H') : Dn p H' v := by
  refine ⟨?_, d.np, d.sh⟩
  have np := d.np
  cases d.th with
  | non => exact .non
  | bl b => exact .bl b
  | int i => exact .int i
  | str x => exact .str x
  | tup h => exact .tup (w.get (fun z => np (by rw [z])) h)
  | lst h => exact .lst (w.get (fun z => np (by rw [z])) h)
  | dK h => exact .dK (w.get (fun z => np (by rw [z])) h)
theorem Dn.non {p : Addr} {H : Hp} : Dn p H .non := ⟨.non, (fun z => by cases z), fun z e => by cases e⟩
theorem Dn.bl {p : Addr} {H : Hp} (b : Bool) : Dn p H (.bl b) := ⟨.bl b, (fun z => by cases z), fun z e => by cases e⟩
theorem Dn.int {p : Addr} {H : Hp} (i : Int) : Dn p H (.int i) := ⟨.int i, (fun z => by cases z), fun z e => by cases e⟩
theorem Dn.str {p : Addr} {H : Hp} {x : Str} (h : x.length ≤ 5000) : Dn p H (.str x) := ⟨.str x, (fun z => by cases z), fun z e => by cases e; exact h⟩
theorem Dn.tup {p q : Addr} {H : Hp} {xs : List V} (n : q ≠ p) (h : H q = some (.tup xs)) : Dn p H (.ref q) := ⟨.tup h, (fun z => n (V.ref.inj z)), fun z e => by cases e⟩
theorem Dn.lst {p q : Addr} {H : Hp} {xs : List V} (n : q ≠ p) (h : H q = some (.lst xs)) : Dn p H (.ref q) := ⟨.lst h, (fun z => n (V.ref.inj z)), fun z e => by cases e⟩
theorem Dn.dK {p q : Addr} {H : Hp} {kvs : List (Key × V)} (n : q ≠ p) (h : H q = some (.dK kvs)) : Dn p H (.ref q) := ⟨.dK h, (fun z => n (V.ref.inj z)), fun z e => by cases e⟩
theorem cond_any {c : TT} {t u : TS} {D : Ends} {σ : L2.St} {H : Hp} (hc : ∀ QB : Bool → Hp → Prop, (∀ b, QB b H) → c σ H QB) (ht : t D σ H) (hu : u D σ H) : tIfS c t u D σ H := hc _ fun b => by
  cases b
  · exact hu
  · exact ht
theorem i_pick {K : PySem.W.Frag} {p : Addr} {xs : List V} {r n : Int} {H : Hp} {Q : VK} (h : H p = some (.lst xs)) (hl : (xs.length : Int) = n) (h0 : 0 ≤ r) (h1 : r < n) (k : ∀ v, v ∈ xs → Q v H) : rIxL K (.ref p) (.int r) H Q := by
  obtain ⟨v, hv, hm⟩ := at_mem (xs := xs) h0 (by rw [hl]; exact h1)
  exact i_ixl h hv (k v hm)
abbrev tPl (m : TE) : TE := tCall spPull [] E0 (tCons (tVar 1) (tCons m tNil))
def bI1 (K : PySem.W.Frag) : TS := tSeq (tAsg (tLst (tCons (tC V.non) (tCons (tC (V.bl true)) (tCons (tC (V.int 7)) (tCons (tC (V.str "2")) (tCons (tCat (tVar 6) (tC (V.str "a"))) (tCons (tLst (tCons (tVar 6) tNil)) (tCons (tTup (tCons (tVar 6) (tCons (tC (V.str "0")) tNil)))
  (tCons (tDisp [(tC (V.str "0"), tC (V.str "1"))]) (tCons (tCat (tVar 6) (tC (V.str " "))) (tCons (tC (V.str "O")) tNil))))))))))) (gName 10)) (tAsg (tOp (rIxL K) (tVar 10) (tPl (tC (V.int 10)))) (gName 6))
def cI1 : TT := tOr (tTest (tOp rEq (tVar 3) (tC (V.int 0)))) (tTest (tOp (rI0 fun i j => V.bl (decide (j < i))) (tVar 3) (tC (V.int 13))))
def bI2 (K : PySem.W.Frag) : TS := tSeq (tAsg (tPl (tOp (rI CPow fun i j => V.int (i ^ j.toNat)) (tC (V.int 10)) (tC (V.int 30)))) (gName 11)) (tAsg (tOp (rIxL K) (tLst (tCons (tC V.non) (tCons (tC (V.bl true)) (tCons (tC (V.bl false)) (tCons (tC (V.str "0")) (tCons (tUn (rU fun i => V.int (-i)) (tC (V.int 1)))
  (tCons (tOp (rI0 fun i j => V.int (i + j)) (tVar 4) (tC (V.int 1))) (tCons (tOp (rI0 fun i j => V.int (i + j)) (tVar 4) (tVar 11)) (tCons (tOp (rI0 fun i j => V.int (i - j)) (tUn (rU fun i => V.int (-i)) (tC (V.int 1))) (tVar 11)) (tCons (tLst (tCons (tC (V.int 0)) tNil)) (tCons (tTup (tCons (tC (V.int 0)) tNil)) tNil)))))))))))
  (tPl (tC (V.int 10)))) (gName 8))
def cI2 : TT := tOr (tTest (tOp rEq (tVar 3) (tC (V.int 1)))) (tOr (tTest (tOp rEq (tVar 3) (tC (V.int 2)))) (tTest (tOp rEq (tVar 3) (tC (V.int 14)))))
def bI3 (K : PySem.W.Frag) : TS := tAsg (tOp (rIxL K) (tLst (tCons (tC V.non) (tCons (tC (V.str "")) (tCons (tC (V.str "00")) (tCons (tC (V.str "2")) (tCons (tC (V.int 0)) (tCons (tC (V.int 1)) (tCons (tC (V.bl true)) (tCons (tLst (tCons (tC (V.str "0")) tNil)) (tCons (tC (V.str "O")) (tCons (tC (V.str "1 ")) tNil)))))))))))
  (tPl (tC (V.int 10)))) (gName 9)
def cI3 : TT := tOr (tTest (tOp rEq (tVar 3) (tC (V.int 2)))) (tOr (tTest (tOp rEq (tVar 3) (tC (V.int 3)))) (tTest (tOp rEq (tVar 3) (tC (V.int 15)))))
def tAskd (a : Ad) : TS := tIfS (tNot (tB (tCall (spAsked a) [] E0 (tCons (tVar 6) (tCons (tVar 8) (tCons (tVar 9) tNil)))))) (tRet (tC (V.bl false))) tNext
section
variable {K : PySem.W.Frag} {N : L2.St → Hp → Prop} {rt : VK} {bk ct : L2.St → Hp → Prop} {H : Hp} {p : Addr} {wr mn : Int} {v0 v2 v5 v6 v7 v8 v9 v10 v11 : Option V} {z : Str} {x6 y8 u9 : V}
theorem ok_I1 (S : StOk H p) (hz : z.length ≤ 4999) (k : ∀ x v10 H', Dn p H' x → Went p H H' → N [v0, some (.ref p), v2, some (.int wr), some (.int mn), v5, some x, v7, v8, v9, v10, v11] H') :
    tIfS cI1 (bI1 K) tNext { nx := N, rt := rt, bk := bk, ct := ct } [v0, some (.ref p), v2, some (.int wr), some (.int mn), v5, some (.str z), v7, v8, v9, v10, v11] H := by
  refine cond_any (fun QB q => ?_) ?_ (k _ _ _ (.str (Nat.le_trans hz (by decide))) (Went.rfl' S))
  · unfold cI1
    walk_at "go"
    refine i_itei (fun _ => q _) (fun _ => ?_)
    walk_at "go"
    exact q _
  · unfold bI1
    have l1 : ∀ s : Str, s.length = 1 → (z ++ s).length ≤ 5000 := fun s hs => by rw [PySem.Str.length_append, hs]; omega
    walk_at "go"
    refine ⟨_, _, rfl, rfl, Nat.le_trans (Nat.add_le_add hz (Nat.le_refl 1)) (by decide), ?_⟩
    walk_at "go"
    rename_i p1 n1 p2 n2
    intro p3 n3
    refine ⟨upd_same, [(Sum.inr "0", .str "1")], rfl, by decide, ?_⟩
    rw [upd_upd]
    walk_at "go"
    refine ⟨_, _, rfl, rfl, Nat.le_trans (Nat.add_le_add hz (Nat.le_refl 1)) (by decide), ?_⟩
    walk_at "go"
    rename_i p4 n4
    have W1 : Went p H (upd H p1 (HO.lst [V.str z])) := (Went.rfl' S).new n1
    have W2 := W1.new (o := .tup [V.str z, V.str "0"]) n2
    have W3 := W2.new (o := .dK (mergeK [] [(Sum.inr "0", .str "1")])) n3
    have hpp : ∃ o, H p = some o := by obtain ⟨L, ns, i, b, c, e, _⟩ := S; exact ⟨_, e⟩
    obtain ⟨op, ep⟩ := hpp
    refine ⟨p, _, rfl, (W3.new n4).1, by decide, by decide, fun r H2 h0 h1 W5 => ?_⟩
    walk_at "go"
    have q1 : p ≠ p1 := by walk_at "ne"
    have q2 : p ≠ p2 := by walk_at "ne"
    have q3 : p ≠ p3 := by walk_at "ne"
    have q4 : p ≠ p4 := by walk_at "ne"
    refine' i_pick (n := 10) ?h ?l h0 h1 ?kk
    case h => walk_at "hp"
    case l => rfl
    intro v hm
    walk_at "go"
    refine k v _ H2 ?_ ((W3.new n4).trans W5)
    simp only [List.mem_cons, List.not_mem_nil, or_false] at hm
    rcases hm with rfl | rfl | rfl | rfl | rfl | rfl | rfl | rfl | rfl | rfl
    case _ => exact .non
    case _ => exact .bl _
    case _ => exact .int _
    case _ => exact .str (by decide)
    case _ => exact .str (l1 _ rfl)
    case _ => exact .lst (xs := [V.str z]) q1.symm (by walk_at "hp")
    case _ => exact .tup (xs := [V.str z, V.str "0"]) q2.symm (by walk_at "hp")
    case _ => exact .dK q3.symm (by walk_at "hp")
    case _ => exact .str (l1 _ rfl)
    case _ => exact .str (by decide)
theorem ok_I2 (S : StOk H p) (hv8 : ∃ y, v8 = some y ∧ Dn p H y) (hx : Dn p H x6) (k : ∀ y v11 H', Dn p H' x6 → Dn p H' y → Went p H H' → N [v0, some (.ref p), v2, some (.int wr), some (.int mn), v5, some x6, v7, some y, v9, v10, v11] H') :
    tIfS cI2 (bI2 K) tNext { nx := N, rt := rt, bk := bk, ct := ct } [v0, some (.ref p), v2, some (.int wr), some (.int mn), v5, some x6, v7, v8, v9, v10, v11] H := by
  obtain ⟨y, rfl, hy⟩ := hv8
  refine cond_any (fun QB q => ?_) ?_ (k _ _ _ hx hy (Went.rfl' S))
  · unfold cI2
    walk_at "go"
    refine i_itei (fun _ => q _) (fun _ => ?_)
    walk_at "go"
    refine i_itei (fun _ => q _) (fun _ => ?_)
    walk_at "go"
    exact q _
  · unfold bI2
    have hpp : ∃ o, H p = some o := by obtain ⟨L, ns, i, b, c, e, _⟩ := S; exact ⟨_, e⟩
    walk_at "go"
    refine ⟨p, _, rfl, S, by decide, by decide, fun r1 H1 g0 g1 W1 => ?_⟩
    walk_at "go"
    rename_i p1 n1 p2 n2 p3 n3
    have W2 := W1.new (o := .lst [V.int 0]) n1
    have W3 := W2.new (o := .tup [V.int 0]) n2
    obtain ⟨L, ns, i, b, c, ep, _⟩ := W1.1
    refine ⟨p, _, rfl, (W3.new n3).1, by decide, by decide, fun r H2 h0 h1 W5 => ?_⟩
    have q1 : p ≠ p1 := by walk_at "ne"
    have q2 : p ≠ p2 := by walk_at "ne"
    have q3 : p ≠ p3 := by walk_at "ne"
    refine' i_pick (n := 10) ?h ?l h0 h1 ?kk
    case h => walk_at "hp"
    case l => rfl
    intro v hm
    walk_at "go"
    refine k v _ H2 (hx.went ((W3.new n3).trans W5)) ?_ ((W3.new n3).trans W5)
    simp only [List.mem_cons, List.not_mem_nil, or_false] at hm
    rcases hm with rfl | rfl | rfl | rfl | rfl | rfl | rfl | rfl | rfl | rfl
    case _ => exact .non
    case _ => exact .bl _
    case _ => exact .bl _
    case _ => exact .str (by decide)
    case _ => exact .int _
    case _ => exact .int _
    case _ => exact .int _
    case _ => exact .int _
    case _ => exact .lst (xs := [V.int 0]) q1.symm (by walk_at "hp")
    case _ => exact .tup (xs := [V.int 0]) q2.symm (by walk_at "hp")
theorem ok_I3 (S : StOk H p) (hx : Dn p H x6) (hy : Dn p H y8) (hu : Dn p H u9) (su : ∀ b, u9 = .str b → b.length ≤ 100) (k : ∀ u v10 H', Dn p H' x6 → Dn p H' y8 → Dn p H' u → (∀ b, u = .str b → b.length ≤ 100) → Went p H H' → N [v0, some (.ref p), v2, some (.int wr), some (.int mn), v5, some x6, v7, some y8, some u, v10, v11] H') :
    tIfS cI3 (bI3 K) tNext { nx := N, rt := rt, bk := bk, ct := ct } [v0, some (.ref p), v2, some (.int wr), some (.int mn), v5, some x6, v7, some y8, some u9, v10, v11] H := by
  refine cond_any (fun QB q => ?_) ?_ (k _ _ _ hx hy hu su (Went.rfl' S))
  · unfold cI3
    walk_at "go"
    refine i_itei (fun _ => q _) (fun _ => ?_)
    walk_at "go"
    refine i_itei (fun _ => q _) (fun _ => ?_)
    walk_at "go"
    exact q _
  · unfold bI3
    walk_at "go"
    rename_i p1 n1 p2 n2
    have W1 := (Went.rfl' S).new (o := .lst [V.str "0"]) n1
    obtain ⟨L, ns, i, b, c, ep, _⟩ := id S
    refine ⟨p, _, rfl, (W1.new n2).1, by decide, by decide, fun r H2 h0 h1 W5 => ?_⟩
    have q1 : p ≠ p1 := by walk_at "ne"
    have q2 : p ≠ p2 := by walk_at "ne"
    refine' i_pick (n := 10) ?h ?l h0 h1 ?kk
    case h => walk_at "hp"
    case l => rfl
    intro v hm
    walk_at "go"
    simp only [List.mem_cons, List.not_mem_nil, or_false] at hm
    have dv : Dn p H2 v ∧ ∀ b, v = .str b → b.length ≤ 100 := by
      rcases hm with rfl | rfl | rfl | rfl | rfl | rfl | rfl | rfl | rfl | rfl
      case _ => exact ⟨.non, fun b e => by cases e⟩
      case _ => exact ⟨.str (by decide), fun b e => by cases e; decide⟩
      case _ => exact ⟨.str (by decide), fun b e => by cases e; decide⟩
      case _ => exact ⟨.str (by decide), fun b e => by cases e; decide⟩
      case _ => exact ⟨.int _, fun b e => by cases e⟩
      case _ => exact ⟨.int _, fun b e => by cases e⟩
      case _ => exact ⟨.bl _, fun b e => by cases e⟩
      case _ => exact ⟨.lst (xs := [V.str "0"]) q1.symm (by walk_at "hp"), fun b e => by cases e⟩
      case _ => exact ⟨.str (by decide), fun b e => by cases e; decide⟩
      case _ => exact ⟨.str (by decide), fun b e => by cases e; decide⟩
    exact k v _ H2 (hx.went ((W1.new n2).trans W5)) (hy.went ((W1.new n2).trans W5)) dv.1 dv.2 ((W1.new n2).trans W5)
end
end Me
set_option maxHeartbeats 8000000
namespace Me
open PySem L2


theorem tabs_went {Tt : List (Addr × Str)} {H H' : Hp} {p : Addr} (t : LamX.Tabs Tt H) (S : StOk H p) (w : Went p H H') : LamX.Tabs Tt H' := fun q hq => by
  obtain ⟨ps, h1, h2, h3⟩ := t q hq
  obtain ⟨L, ns, i, b, c, e, _⟩ := S
  refine ⟨ps, w.get (fun z => by rw [z, e] at h1; cases h1) h1, h2, fun pos cv hc => ?_⟩
  obtain ⟨c, e1, e2⟩ := h3 pos cv hc
  refine ⟨c, e1, w.get (fun z => ?_) e2⟩
  rw [z, e] at e2
  have e2 := Option.some.inj e2
  unfold LamX.CodeO at e2
  cases e2
theorem StOk.extN {H H' : Hp} {p : Addr} (S : StOk H p) (e : LamX.ExtN H H') : StOk H' p := by
  obtain ⟨L, ns, i, b, c, h1, h2, h3⟩ := S
  exact ⟨L, ns, i, b, c, e _ _ h1 (fun _ z => by cases z), e _ _ h2 (fun _ z => by cases z), h3⟩
theorem join_sum (ys : List Str) : (Txt.join "" ys).length = (ys.map (·.length)).sum := by
  have f : ∀ zs : List Str, (Str.join "" zs).length = (zs.map (·.length)).sum := by
    intro zs
    induction zs with
    | nil => rfl
    | cons a r ih =>
      cases r with
      | nil => simp [Str.join]
      | cons b r =>
        show (a ++ "" ++ Str.join "" (b :: r)).length = _
        rw [PySem.Str.length_append, PySem.Str.length_append, ih]
        show a.length + 0 + _ = _
        simp only [List.map_cons, List.sum_cons]
        omega
  rw [TL.join_eq]
  exact f ys
theorem sum_rep (n : Nat) (z : Str) : ((List.replicate n z).map (·.length)).sum = n * z.length := by
  induction n with
  | zero => simp
  | succ n ih => rw [List.replicate_succ, List.map_cons, List.sum_cons, ih, Nat.succ_mul]; omega
section
variable {P : Program} {w : World} {K : PySem.W.Frag} {mg : Str → Option Value} {base : Heap} {a : Ad}
def spLaw (K : PySem.W.Frag) (a : Ad) : Sp := fun vs H Q _ => ∃ (s : Addr) (ns : List Int), vs = [.ref s] ∧ SqL K H s (ns.map V.int) ∧ ns.length ≤ 63 ∧ LamX.Tabs (tabs a) H ∧ ∀ H', Q (.bl true) H'
theorem ok_law (T : Txt P K mg a) (TB : LamX.TabB base mg a.tc a.tp) : FnOk P w K mg base CX0 8 a.law.f a.law.fd ["_law_script"] (spLaw K a) := by
  have G__law_start : FnOk P w K mg base CX0 1 a._law_start.f a._law_start.fd ["_law_script"] (spStart K) := ok_start T
  have G__law_pull : FnOk P w K mg base CX0 1 a._law_pull.f a._law_pull.fd ["_law_state", "_law_many"] spPull := ok_pull T
  have G__law_row : FnOk P w K mg base CX0 2 a._law_row.f a._law_row.fd ["_law_state", "_law_many"] spRow := ok_row T
  have GA : FnOk P w K mg base CX0 7 a._law_asked.f a._law_asked.fd ["_law_bits", "_law_at", "_law_bit"] (spAsked a) := ok_asked T TB
  have sc : FnScope ["_law_script", "_law_state", "_law_turn", "_law_wrong", "_law_many", "_law_row_here", "_law_bits", "_law_k", "_law_at", "_law_bit", "_law_odd", "_law_far"] ["_law_script"] (defScope (top 25)) := ⟨rfl, rfl, rfl, by decide +kernel, rfl, by decide +kernel, by decide +kernel⟩
  refine T.law.ok sc (fun vs H Q E h => ?_) (fun cdv A outer s H vs Q E hr h => ?_)
  · obtain ⟨p, _, rfl, _⟩ := h
    rfl
  · obtain ⟨sa, ns, rfl, hS, hn, Tb, k⟩ := h
    refine ⟨_, (pss_cons (ps_set (i := 1) sc.nd rfl (by first | exact Or.inl rfl | exact Or.inr rfl) (pe_call G__law_start (hr.mono (by first | decide | omega)) rfl T._law_start.mg T._law_start.kp T._law_start.b .nil pass0 (pa_cons (pv 0) pa_nil)))
      (pss_cons (ps_for PassesOwn.never rfl (pi_range1 rfl T.range (pa_cons (pe_op op_add pe_int (pe_call G__law_pull (hr.mono (by first | decide | omega)) rfl T._law_pull.mg T._law_pull.kp T._law_pull.b .nil pass0 (pa_cons (pv 1) (pa_cons pe_int pa_nil)))) pa_nil)) (pg_name (i := 2) sc.nd rfl (by first | exact Or.inl rfl | exact Or.inr rfl))
      (pss_cons (ps_set (i := 3) sc.nd rfl (by first | exact Or.inl rfl | exact Or.inr rfl) (pe_call G__law_pull (hr.mono (by first | decide | omega)) rfl T._law_pull.mg T._law_pull.kp T._law_pull.b .nil pass0 (pa_cons (pv 1) (pa_cons pe_int pa_nil))))
      (pss_cons (ps_set (i := 4) sc.nd rfl (by first | exact Or.inl rfl | exact Or.inr rfl) (pe_ix ix_list (pe_lst (pa_cons (pe_call G__law_pull (hr.mono (by first | decide | omega)) rfl T._law_pull.mg T._law_pull.kp T._law_pull.b .nil pass0 (pa_cons (pv 1) (pa_cons pe_int pa_nil))) (pa_cons (pe_call G__law_pull (hr.mono (by first | decide | omega)) rfl T._law_pull.mg T._law_pull.kp T._law_pull.b .nil pass0 (pa_cons (pv 1) (pa_cons pe_int pa_nil))) (pa_cons (pe_op op_add pe_int (pe_call G__law_pull (hr.mono (by first | decide | omega)) rfl T._law_pull.mg T._law_pull.kp T._law_pull.b .nil pass0 (pa_cons (pv 1) (pa_cons pe_int pa_nil)))) pa_nil)))) (pe_op op_fdiv (pe_call G__law_pull (hr.mono (by first | decide | omega)) rfl T._law_pull.mg T._law_pull.kp T._law_pull.b .nil pass0 (pa_cons (pv 1) (pa_cons pe_int pa_nil))) pe_int) (fun _ _ => rfl)))
      (pss_cons (ps_set (i := 5) sc.nd rfl (by first | exact Or.inl rfl | exact Or.inr rfl) (pe_call G__law_row (hr.mono (by first | decide | omega)) rfl T._law_row.mg T._law_row.kp T._law_row.b .nil pass0 (pa_cons (pv 1) (pa_cons (pe_op op_add pe_int (pe_callB (call_min2 rfl) (by rfl) T.min (by decide +kernel) (pa_cons (pv 4) (pa_cons (pe_call G__law_pull (hr.mono (by first | decide | omega)) rfl T._law_pull.mg T._law_pull.kp T._law_pull.b .nil pass0 (pa_cons (pv 1) (pa_cons pe_int pa_nil))) pa_nil)))) pa_nil))))
      (pss_cons (ps_set (i := 6) sc.nd rfl (by first | exact Or.inl rfl | exact Or.inr rfl) (pe_slice sl_str (pe_join pe_str (pe_lc (te := tVar 5) (own := [("_law_k", 7)]) (g := gName 7) (by rfl) sc.nd (pi_range1 rfl T.range (pa_cons (pe_op op_add (pe_op op_fdiv (pv 4) (pe_callB call_len_str (by rfl) T.len PySem.boot_len (pa_cons (pv 5) pa_nil))) pe_int) pa_nil)) (blkOk_by (own := [("_law_k", 7)]) (N := ["_law_script", "_law_state", "_law_turn", "_law_wrong", "_law_many", "_law_row_here", "_law_bits", "_law_k", "_law_at", "_law_bit", "_law_odd", "_law_far"]) (sc := defScope (top 25)) (by decide +kernel)) (fun _ _ _ _ _ => pg_name (i := 7) sc.nd rfl (Or.inl rfl)) (fun _ _ _ _ _ => pts_nil) (fun _ _ _ _ _ => (by exact (pv 5))))) po_none (po_some (pv 4))))
      (pss_cons (ps_set (i := 8) sc.nd rfl (by first | exact Or.inl rfl | exact Or.inr rfl) (pe_call G__law_pull (hr.mono (by first | decide | omega)) rfl T._law_pull.mg T._law_pull.kp T._law_pull.b .nil pass0 (pa_cons (pv 1) (pa_cons (pe_op op_add (pv 4) pe_int) pa_nil))))
      (pss_cons (ps_set (i := 9) sc.nd rfl (by first | exact Or.inl rfl | exact Or.inr rfl) (pe_callTy call_str_int (by rfl) T.str (by decide +kernel) (pa_cons (pe_call G__law_pull (hr.mono (by decide)) rfl T._law_pull.mg T._law_pull.kp T._law_pull.b .nil pass0 (pa_cons (pv 1) (pa_cons pe_int pa_nil))) pa_nil)))
      (pss_cons (ps_if (PW.pt (pw_or (pt_cmpR op_eq (pv 3) pe_int (nomark _)) (pw_or1 (pt_cmpR op_gt (pv 3) pe_int (nomark _)))))
      (pss_cons (ps_set (i := 10) sc.nd rfl (by first | exact Or.inl rfl | exact Or.inr rfl) (pe_lst (pa_cons pe_non (pa_cons pe_bl (pa_cons pe_int (pa_cons pe_str (pa_cons (pe_op op_add_str (pv 6) pe_str) (pa_cons (pe_lst (pa_cons (pv 6) pa_nil)) (pa_cons (pe_tup (pa_cons (pv 6) (pa_cons pe_str pa_nil))) (pa_cons (pe_disp (pps_cons pe_str pe_str pps_nil) (by rfl) (by rfl) (fun z => by cases z) (by decide)) (pa_cons (pe_op op_add_str (pv 6) pe_str) (pa_cons pe_str pa_nil))))))))))))
      (pss_one (ps_set (i := 6) sc.nd rfl (by first | exact Or.inl rfl | exact Or.inr rfl) (pe_ix ix_list (pv 10) (pe_call G__law_pull (hr.mono (by first | decide | omega)) rfl T._law_pull.mg T._law_pull.kp T._law_pull.b .nil pass0 (pa_cons (pv 1) (pa_cons pe_int pa_nil))) (fun _ _ => rfl)))))
      pss_nil)
      (pss_cons (ps_if (PW.pt (pw_or (pt_cmpR op_eq (pv 3) pe_int (nomark _)) (pw_or (pt_cmpR op_eq (pv 3) pe_int (nomark _)) (pw_or1 (pt_cmpR op_eq (pv 3) pe_int (nomark _))))))
      (pss_cons (ps_set (i := 11) sc.nd rfl (by first | exact Or.inl rfl | exact Or.inr rfl) (pe_call G__law_pull (hr.mono (by first | decide | omega)) rfl T._law_pull.mg T._law_pull.kp T._law_pull.b .nil pass0 (pa_cons (pv 1) (pa_cons (pe_op op_pow pe_int pe_int) pa_nil))))
      (pss_one (ps_set (i := 8) sc.nd rfl (by first | exact Or.inl rfl | exact Or.inr rfl) (pe_ix ix_list (pe_lst (pa_cons pe_non (pa_cons pe_bl (pa_cons pe_bl (pa_cons pe_str (pa_cons (pe_un un_neg pe_int) (pa_cons (pe_op op_add (pv 4) pe_int) (pa_cons (pe_op op_add (pv 4) (pv 11)) (pa_cons (pe_op op_sub (pe_un un_neg pe_int) (pv 11)) (pa_cons (pe_lst (pa_cons pe_int pa_nil)) (pa_cons (pe_tup (pa_cons pe_int pa_nil)) pa_nil))))))))))) (pe_call G__law_pull (hr.mono (by first | decide | omega)) rfl T._law_pull.mg T._law_pull.kp T._law_pull.b .nil pass0 (pa_cons (pv 1) (pa_cons pe_int pa_nil))) (fun _ _ => rfl)))))
      pss_nil)
      (pss_cons (ps_if (PW.pt (pw_or (pt_cmpR op_eq (pv 3) pe_int (nomark _)) (pw_or (pt_cmpR op_eq (pv 3) pe_int (nomark _)) (pw_or1 (pt_cmpR op_eq (pv 3) pe_int (nomark _))))))
      (pss_one (ps_set (i := 9) sc.nd rfl (by first | exact Or.inl rfl | exact Or.inr rfl) (pe_ix ix_list (pe_lst (pa_cons pe_non (pa_cons pe_str (pa_cons pe_str (pa_cons pe_str (pa_cons pe_int (pa_cons pe_int (pa_cons pe_bl (pa_cons (pe_lst (pa_cons pe_str pa_nil)) (pa_cons pe_str (pa_cons pe_str pa_nil))))))))))) (pe_call G__law_pull (hr.mono (by first | decide | omega)) rfl T._law_pull.mg T._law_pull.kp T._law_pull.b .nil pass0 (pa_cons (pv 1) (pa_cons pe_int pa_nil))) (fun _ _ => rfl))))
      pss_nil)
      (pss_one (ps_if (pt_not (pt_val (pe_call GA (hr.mono (by decide)) rfl T._law_asked.mg T._law_asked.kp T._law_asked.b .nil pass0 (pa_cons (pv 6) (pa_cons (pv 8) (pa_cons (pv 9) pa_nil))))))
      (pss_one (ps_ret pe_bl))
      pss_nil))))))))))))
      (pss_one (ps_ret pe_bl)))), ?_⟩
    walk_at "go"
    refine ⟨sa, ns, rfl, hS, hn, fun p H0 np S0 s0 => ?_⟩
    have T0 : LamX.Tabs (tabs a) H0 := Tb.ext s0
    walk_at "go"
    refine ⟨_, rfl, p, _, rfl, S0, by decide, by decide, fun r0 H1 h0 h1 W0 => ⟨_, _, rfl, rfl, ?_⟩⟩
    refine ⟨3 + r0, rfl, by omega, by omega, for_range (n := (3 + r0).toNat) (fun _ σ H2 => StOk H2 p ∧ LamX.Tabs (tabs a) H2 ∧ ∃ v2 v3 v4 v5 v6 v7 v8 v9 v10 v11, σ = [some (.ref sa), some (.ref p), v2, v3, v4, v5, v6, v7, v8, v9, v10, v11]) ⟨W0.1, tabs_went T0 S0 W0, _, _, _, _, _, _, _, _, _, _, rfl⟩ ?_ ?_⟩
    · rintro i σ H2 hi ⟨S2, T2, v2, v3, v4, v5, v6, v7, v8, v9, v10, v11, rfl⟩
      walk_at "go"
      refine ⟨p, _, rfl, S2, by decide, by decide, fun wr H3 a0 a1 W3 => ?_⟩
      walk_at "go"
      refine ⟨p, _, rfl, W3.1, by decide, by decide, fun r1 H4 b0 b1 W4 => ?_⟩
      walk_at "go"
      refine ⟨p, _, rfl, W4.1, by decide, by decide, fun r2 H5 c0 c1 W5 => ?_⟩
      walk_at "go"
      refine ⟨p, _, rfl, W5.1, by decide, by decide, fun r3 H6 d0 d1 W6 => ?_⟩
      walk_at "go"
      rename_i pl npl
      refine ⟨p, _, rfl, (W6.new npl).1, by decide, by decide, fun r4 H7 e0 e1 W7 => ?_⟩
      walk_at "go"
      obtain ⟨L6, ns6, i6, b6, c6, ep6, _⟩ := id W6.1
      have ql : p ≠ pl := by walk_at "ne"
      refine' i_pick (n := 3) ?h ?l ?x ?y ?kk
      case h => walk_at "hp"
      case l => rfl
      case x => omega
      case y => omega
      intro v hm
      have S7 := W7.1
      have T7 : LamX.Tabs (tabs a) H7 := tabs_went ((tabs_went (tabs_went (tabs_went (tabs_went T2 S2 W3) W3.1 W4) W4.1 W5) W5.1 W6).ext (same_new same_rfl npl)) (W6.new npl).1 W7
      obtain ⟨mn, rfl, m0, m1⟩ : ∃ mn : Int, v = .int mn ∧ 0 ≤ mn ∧ mn ≤ 3999 := by
        simp only [List.mem_cons, List.not_mem_nil, or_false] at hm
        rcases hm with rfl | rfl | rfl
        · exact ⟨_, rfl, b0, by omega⟩
        · exact ⟨_, rfl, c0, by omega⟩
        · exact ⟨_, rfl, by omega, by omega⟩
      clear hm W3 W4 W5 W6 W7 T2 S2
      walk_at "go"
      refine ⟨p, _, rfl, S7, by decide, by decide, fun r5 H8 f0 f1 W8 => ?_⟩
      walk_at "go"
      refine ⟨mn, r5, rfl, ?_⟩
      walk_at "go"
      refine ⟨p, _, rfl, W8.1, by split <;> omega, by split <;> omega, fun z H9 lz W9 => ?_⟩
      have lz1 : 1 ≤ z.length ∧ z.length ≤ 71 := by rw [lz]; split <;> omega
      walk_at "go"
      have S9 := W9.1
      have T9 : LamX.Tabs (tabs a) H9 := tabs_went (tabs_went T7 S7 W8) W8.1 W9
      clear W8 W9 S7 T7
      refine i_m1 ?_
      refine ⟨⟨_, rfl⟩, ?_⟩
      have q0 : 0 ≤ mn / (z.length : Int) := Int.ediv_nonneg m0 (by omega)
      have q1 : mn / (z.length : Int) ≤ mn := Int.ediv_le_self _ m0
      have q2 : mn / (z.length : Int) * (z.length : Int) ≤ mn := Int.ediv_mul_le mn (by omega)
      refine ⟨_, rfl, _, rfl, z, rfl, Nat.le_trans lz1.2 (by decide), _, _, rfl, rfl, ⟨by omega, by omega⟩, _, _, rfl, rfl, mn / (z.length : Int) + 1, rfl, by omega, by omega, fun D nD => ?_⟩
      have Dp : D ≠ p := S9.ne nD
      refine lc_range (lo := 0) (n := (mn / (z.length : Int) + 1).toNat) (fun i H3 => H3 D = some (.lst ((List.replicate i z).map V.str)) ∧ Went p H9 H3) ⟨upd_same, (Went.rfl' S9).new nD⟩ ?_ ?_
      · rintro i H3 hi ⟨e1, W3⟩
        refine ⟨rfl, ?_⟩
        dsimp only [tYes]
        rw [if_pos rfl]
        refine ⟨_, rfl, (List.replicate i z).map V.str, e1, ?_, ?_, Went.wr S9 W3 nD Dp⟩
        · rw [List.length_map, List.length_replicate]
          exact Nat.lt_of_le_of_lt (m := 4000) (by omega) (by decide)
        · rw [upd_same, List.replicate_succ', List.map_append]; rfl
      rintro H3 ⟨e1, W3⟩
      have sb : ((List.replicate (mn / (z.length : Int) + 1).toNat z).map (·.length)).sum ≤ 4070 := by
        rw [sum_rep]
        have e : (((mn / (z.length : Int) + 1).toNat * z.length : Nat) : Int) = mn / (z.length : Int) * (z.length : Int) + (z.length : Int) := by
          rw [Int.natCast_mul, Int.toNat_of_nonneg (by omega), Int.add_mul, Int.one_mul]
        omega
      refine ⟨_, D, List.replicate (mn / (z.length : Int) + 1).toNat z, rfl, rfl, .inl (SqL.of e1), ?_, ?_⟩
      · refine Nat.le_trans (Nat.add_le_add sb (Nat.le_of_eq (Nat.mul_zero _))) (by decide)
      have jb : (Txt.join "" (List.replicate (mn / (z.length : Int) + 1).toNat z)).length ≤ 4070 := by rw [join_sum]; exact sb
      refine ⟨_, rfl, _, rfl, _, rfl, Nat.le_trans jb (by decide), ?_⟩
      have cb : (cutS (Txt.join "" (List.replicate (mn / (z.length : Int) + 1).toNat z)) none (some mn)).length ≤ 4999 := Nat.le_trans (cut_le jb _ _) (by decide)
      generalize cutS (Txt.join "" (List.replicate (mn / (z.length : Int) + 1).toNat z)) none (some mn) = bz at cb ⊢
      have S10 := W3.1
      have T10 := tabs_went T9 S9 W3
      clear jb sb e1 W3 S9 T9
      walk_at "go"
      refine ⟨p, _, rfl, S10, by omega, by omega, fun r6 H11 g0 g1 W11 => ?_⟩
      walk_at "go"
      refine ⟨p, _, rfl, W11.1, by decide, by decide, fun r7 H12 k0 k1 W12 => ?_⟩
      have S12 := W12.1
      have T12 := tabs_went (tabs_went T10 S10 W11) W11.1 W12
      have hr7 : r7 = 0 ∨ r7 = 1 := by omega
      have l7 : r7.natAbs.log2 < 1920 ∧ (Str.ofString (toString r7)).length = 1 := by
        rcases hr7 with rfl | rfl
        · exact ⟨by decide, by decide +kernel⟩
        · exact ⟨by decide, by decide +kernel⟩
      refine ⟨r7, rfl, l7.1, ?_⟩
      refine Me.i_gname ?_
      refine Me.i_seq ?_
      refine ok_I1 (K := K) S12 cb fun x v10' H13 dx W13 => ?_
      refine Me.i_seq ?_
      refine ok_I2 (K := K) W13.1 ⟨_, rfl, .int _⟩ dx fun y v11' H14 dx dy W14 => ?_
      refine Me.i_seq ?_
      refine ok_I3 (K := K) W14.1 dx dy (.str (by rw [l7.2]; decide)) (fun b e => by cases e; rw [l7.2]; decide) fun u v10'' H15 dx dy du su W15 => ?_
      have T15 := tabs_went (tabs_went (tabs_went T12 S12 W13) W13.1 W14) W14.1 W15
      walk_at "go"
      refine ⟨x, y, u, rfl, dx.th, dx.sh, dy.th, du.th, (fun b e => Nat.le_trans (su b e) (by decide)), T15, fun H16 e16 T16 => ?_⟩
      walk_at "go"
      exact ⟨W15.1.extN e16, T16, _, _, _, _, _, _, _, _, _, _, rfl⟩
    · rintro σ H2 ⟨S2, T2, v2, v3, v4, v5, v6, v7, v8, v9, v10, v11, rfl⟩
      walk_at "go"
      exact k _
end
end Me
set_option maxHeartbeats 8000000
namespace Me
open PySem L2
abbrev PP : Program := PySem.Challenge.rw_roomleft_k87_bits_turned_dropped_and_put.prog
/-! ### from the head's facts -/
theorem eqB_ok {a b : Option Bool} (h : eqB a b = true) : a = b := of_decide_eq_true h
theorem oexB_ok {K : PySem.W.Frag} {C : Addr} (h : oexB K C = true) : ∃ nm q N bs bm sn sub ab col dd k0 k1 k2 k3 k5, K.lookup C = some (excClassObj nm q C N bs bm true sn sub ab col dd k0 k1 k2 k3 k5 "ValueError.__new__") ∧ PySem.HandSPX.refsVE bm = true := by
  unfold oexB at h
  split at h
  · rename_i dd cd sl lk
    split at h
    · rename_i C' bm k0 k1 k2 k3 n k5 em es
      simp only [Bool.and_eq_true, beq_iff_eq, Bool.not_eq_true'] at h
      obtain ⟨rfl, rfl, nd, hd, ht⟩ := h
      obtain ⟨nm, bs, mro, ns, qn, hdc, sn, sub, ab, col, del⟩ := cd
      dsimp only at em nd hd
      subst em nd hd
      have esl : sl = #[k0, k1, k2, k3, some (.builtin "ValueError.__new__"), k5] := by
        obtain ⟨l⟩ := sl
        exact congrArg Array.mk es
      subst esl
      exact ⟨nm, qn, ns, bs, bm, sn, sub, ab, col, dd, k0, k1, k2, k3, k5, lk, ht⟩
    · cases h
  · cases h
theorem ers_mem {i : Nat} (h : i < 2) : (nmOf i, fsOf i) ∈ ers := by
  have key : ∀ i : Nat, i < 2 → (nmOf i, fsOf i) ∈ ers := by decide +kernel
  exact key i h
theorem nm_inj {i j : Nat} (hi : i < 2) (hj : j < 2) : decide (nmOf i = nmOf j) = decide (i = j) := by
  have key : ∀ i : Nat, i < 2 → ∀ j : Nat, j < 2 → decide (nmOf i = nmOf j) = decide (i = j) := by decide +kernel
  exact key i hi j hj
theorem all_and {l : List Bool} (h : l.all id = true) : ∀ b ∈ l, b = true := fun b hb => List.all_eq_true.mp h b hb
section
variable {K : PySem.W.Frag} {mg : Str → Option Value} {h : Heap}
/-- an __init__ with a closure, as the heap has it -/
theorem sup_fn {i : Nat} (e : fnS K (nmOf i, some "__init__") = valS i) (b : supB K (nmOf i) (nmOf i ++ ".__init__") = true) :
    ∃ (oc : Value) (od : Option Addr) (osl : Array (Option Value)) (kV doc pm ct : Value) (an : Option Addr) (cda cc : Addr),
      K.lookup (He.ma K (He.ga K (nmOf i)) "__init__") = some ⟨oc, od, .func (PySem.W.ksFn "__init__" (nmOf i ++ ".__init__") (defArgs (iniOf i)) (defBody (iniOf i)) (defScope (iniOf i)) .none kV doc pm an (.ref cda) ct cc), osl⟩ ∧
      PySem.W.codeIn K (.ref cda) (nmOf i ++ ".__init__") = true ∧ (∃ cl cld csl, K.lookup cc = some ⟨cl, cld, .cell (some (.ref (He.ga K (nmOf i)))), csl⟩) ∧
      ∃ (ccl : Value) (cdd : Option Addr) (vs : Array Value) (ccs : Array (Option Value)) (file : Str) (tf : Tok), K.lookup cda = some ⟨ccl, cdd, .fields vs, ccs⟩ ∧ vs[2]? = some (.str file tf) ∧ ((PP.main.file : Str) == file) = true := by
  have ea : He.fAd K (nmOf i, some ("__init__" : Str)) = He.ma K (He.ga K (nmOf i)) "__init__" := rfl
  unfold fnS at e
  rw [ea] at e
  unfold supB at b
  cases lk : K.lookup (He.ma K (He.ga K (nmOf i)) "__init__") with
  | none => rw [lk] at e; cases e
  | some o =>
    obtain ⟨oc, od, dt, osl⟩ := o
    simp only [lk] at e b
    cases dt with
    | func fd =>
      obtain ⟨n1, n2, n3, n4, n5, n6, n7, n8, n9, n10, n11, n12, n13, n14, n15⟩ := fd
      dsimp only at e b
      unfold valS at e
      simp only [Option.some.injEq, Prod.mk.injEq] at e
      obtain ⟨h1, h2, h3, h4, h5, h6, h7⟩ := e
      subst h1 h2 h3 h4 h5 h6 h7
      obtain ⟨b1, b2⟩ := Bool.and_eq_true_iff.mp b
      obtain ⟨b3, b4⟩ := Bool.and_eq_true_iff.mp b2
      have e8 := of_decide_eq_true b3
      subst e8
      split at b4
      · rename_i n cc
        obtain ⟨b5, b6⟩ := Bool.and_eq_true_iff.mp b4
        have e9 := of_decide_eq_true b5
        subst e9
        split at b6
        · rename_i cl cld D csl lcc
          obtain ⟨b7, b8⟩ := Bool.and_eq_true_iff.mp b6
          have e10 := beq_iff_eq.mp b7
          subst e10
          split at b8
          · rename_i c
            split at b8
            · rename_i ccl cdd vs ccs lc
              split at b8
              · rename_i x1 x2 f tf rest ev
                refine ⟨oc, od, osl, n9, n10, n11, n14, n12, c, cc, rfl, b1, ⟨cl, cld, csl, lcc⟩, ccl, cdd, vs, ccs, f, tf, lc, ?_, b8⟩
                rw [← Array.getElem?_toList, ev]
                rfl
              · cases b8
            · cases b8
          · cases b8
        · cases b6
      · cases b4
    | _ => cases e

theorem sups {i : Nat} (e : fnS K (nmOf i, some "__init__") = valS i) (b : supB K (nmOf i) (nmOf i ++ ".__init__") = true) (h0 : i = 0) :
    ∃ (qn : Str) (p0 p1 p2 p3 p4 : Pos) (ap : Pos) (dV kV doc pm ct oc : Value) (an od : Option Addr) (cda cc : Addr) (osl : Array (Option Value)),
    K.lookup (He.ma K (He.ga K (nmOf i)) "__init__") = some ⟨oc, od, .func (PySem.W.ksFn "__init__" qn { posonlyargs := [], args := [{ arg := "self", annotation := none, pos := ap }], vararg := none, kwonlyargs := [], kw_defaults := [], kwarg := none, defaults := [] } [.Expr (.Call (.Attribute (.Call (.Name "super" p0) [] [] p1) "__init__" p2) [] [] p3) p4] scS dV kV doc pm an (.ref cda) ct cc), osl⟩ ∧
    PySem.W.codeIn K (.ref cda) qn = true ∧ dV = .none ∧ (∀ env : Env, ∃ pl : Sem Bool, eval (.Call (.Attribute (.Call (.Name "super" p0) [] [] p1) "__init__" p2) [] [] p3) env = (do
      let ov ← attributeBase (.Call (.Name "super" p0) [] [] p1) "__init__" env (eval (.Call (.Name "super" p0) [] [] p1) env)
      standAt p2.atName
      let (f, first) ← holding [ov] (getMethod ov "__init__" pl)
      callWith p3 f first (backTo p3 (starEach [] env)) [])) ∧
    (∃ cl cld csl, K.lookup cc = some ⟨cl, cld, .cell (some (.ref (He.ga K (nmOf i)))), csl⟩) ∧ ∃ (ccl : Value) (cdd : Option Addr) (vs : Array Value) (ccs : Array (Option Value)) (file : Str) (tf : Tok), K.lookup cda = some ⟨ccl, cdd, .fields vs, ccs⟩ ∧ vs[2]? = some (.str file tf) ∧ ((PP.main.file : Str) == file) = true := by
  subst h0
  obtain ⟨oc, od, osl, kV, doc, pm, ct, an, cda, cc, h1, h2, h3, h4⟩ := sup_fn (K := K) (i := 0) e b
  exact ⟨_, _, _, _, _, _, _, _, _, _, _, _, _, _, _, _, _, _, h1, h2, rfl, fun env => ⟨_, rfl⟩, h3, h4⟩
theorem mk_txt (X : K.In h) (G : h.Ns mainGlobals mg) (e : obsK0 K = valK0) : ∃ a : Ad, a.law.f = He.ga K "law" ∧ (a.tc, a.tp) = He.cT K ("_law_asked", none) ∧ Txt PP K mg a := by
  have c : He.SaysD fa fn K := congrArg (fun z : He.AlD × Bool × List FnS => z.1) e
  have c2 : exB K = true := congrArg (fun z : He.AlD × Bool × List FnS => z.2.1) e
  have c3 : (nos.map fun i => fnS K (nmOf i, some "__init__")) = nos.map valS := congrArg (fun z : He.AlD × Bool × List FnS => z.2.2) e
  have c30 : fnS K (nmOf 0, some "__init__") = valS 0 := (List.cons.inj c3).1
  have ex := all_and c2
  unfold exL at ex
  have x1 : ers.all (fun y => erB K y.1 y.2) = true := ex _ (by simp)
  have x2 : nos.all (fun i => supB K (nmOf i) (nmOf i ++ ".__init__") && mroOk K (nmOf i)) = true := ex _ (by simp)
  have x3 : He.eqO (PySem.W.alongIn K "__init__" [.ref (He.ga K "RoomError"), .type "ValueError", .type "Exception", .type "BaseException", .type "object"]) (some (some (.builtin "ValueError.__init__"))) = true := ex _ (by simp)
  have x4 : He.eqO (PySem.W.nsIn K cStatics "thirdparty.any") (some none) = true := ex _ (by simp)
  have x5 : He.eqO (PySem.W.specialIn K (.builtin "object.__class__") "__get__") (some (some (.builtin "getset_descriptor.__get__"))) = true := ex _ (by simp)
  have x6 : eqB (PySem.W.takesIn K (.builtin "object.__class__")) (some true) = true := ex _ (by simp)
  have x7 : He.eqO (PySem.W.nsIn K mainGlobals "RoomError") (some (some (.ref (He.ga K "RoomError")))) = true := ex _ (by simp)
  have y2 := Bool.and_eq_true_iff.mp (List.all_eq_true.mp x2 0 (by decide))
  obtain ⟨fd0, F0⟩ := c.def_ 0 (d := dG "is_int" 1) rfl
  obtain ⟨fd1, F1⟩ := c.def_ 1 (d := dG "is_int_within" 2) rfl
  obtain ⟨fd2, F2⟩ := c.def_ 2 (d := dG "is_bits" 3) rfl
  obtain ⟨fd3, F3⟩ := c.def_ 3 (d := dG "is_one_bit" 4) rfl
  obtain ⟨fd4, F4⟩ := c.def_ 4 (d := dG "turned" 10) rfl
  obtain ⟨fd5, F5⟩ := c.def_ 5 (d := dG "dropped" 11) rfl
  obtain ⟨fd6, F6⟩ := c.def_ 6 (d := dG "put" 12) rfl
  obtain ⟨fd7, F7⟩ := c.def_ 7 (d := dG "check_place" 13) rfl
  obtain ⟨fd8, F8⟩ := c.def_ 8 (d := dG "_law_is_int" 15) rfl
  obtain ⟨fd9, F9⟩ := c.def_ 9 (d := dG "_law_same" 16) rfl
  obtain ⟨fd10, F10⟩ := c.def_ 10 (d := dG "_law_is_bits" 17) rfl
  obtain ⟨fd11, F11⟩ := c.def_ 11 (d := dG "_law_start" 18) rfl
  obtain ⟨fd12, F12⟩ := c.def_ 12 (d := dG "_law_pull" 19) rfl
  obtain ⟨fd13, F13⟩ := c.def_ 13 (d := dG "_law_row" 20) rfl
  obtain ⟨fd14, F14⟩ := c.def_ 14 (d := dG "_law_outcome" 21) rfl
  obtain ⟨fd15, F15⟩ := c.def_ 15 (d := dG "_law_place" 22) rfl
  obtain ⟨fd16, F16⟩ := c.def_ 16 (d := dG "_law_one_due" 23) rfl
  obtain ⟨fd17, F17⟩ := c.def_ 17 (d := dG "_law_asked" 24) rfl
  obtain ⟨fd18, F18⟩ := c.def_ 18 (d := dG "law" 25) rfl
  obtain ⟨fdI, FI⟩ := c.def_ 19 (d := dI 1) rfl
  have hcode : fd17.code = .ref (He.codeOf K ("_law_asked", none)) := by
    obtain ⟨oc, od, dV, kV, doc, pm, an, cdv, ct, osl, ef, lk, hcd, _, _⟩ := F17.ex
    obtain ⟨cc, rfl⟩ := He.codeIn_ref hcd
    have e1 : fd17.code = .ref cc := by rw [ef] <;> rfl
    have e2 : He.codeOf K ("_law_asked", none) = cc := He.codeOf_eq lk e1
    rw [e1, e2]
  refine ⟨{ C := fun i => He.ga K (nmOf i), I := fun i => ⟨He.ma K (He.ga K (nmOf i)) "__init__", if i = 1 then fdI else fd0⟩, rm := He.ga K "RoomError", tc := (He.cT K ("_law_asked", none)).1, tp := (He.cT K ("_law_asked", none)).2, is_int := ⟨He.ga K "is_int", fd0⟩, is_int_within := ⟨He.ga K "is_int_within", fd1⟩, is_bits := ⟨He.ga K "is_bits", fd2⟩, is_one_bit := ⟨He.ga K "is_one_bit", fd3⟩, turned := ⟨He.ga K "turned", fd4⟩, dropped := ⟨He.ga K "dropped", fd5⟩, put := ⟨He.ga K "put", fd6⟩, check_place := ⟨He.ga K "check_place", fd7⟩, _law_is_int := ⟨He.ga K "_law_is_int", fd8⟩, _law_same := ⟨He.ga K "_law_same", fd9⟩, _law_is_bits := ⟨He.ga K "_law_is_bits", fd10⟩, _law_start := ⟨He.ga K "_law_start", fd11⟩, _law_pull := ⟨He.ga K "_law_pull", fd12⟩, _law_row := ⟨He.ga K "_law_row", fd13⟩, _law_outcome := ⟨He.ga K "_law_outcome", fd14⟩, _law_place := ⟨He.ga K "_law_place", fd15⟩, _law_one_due := ⟨He.ga K "_law_one_due", fd16⟩, _law_asked := ⟨He.ga K "_law_asked", fd17⟩, law := ⟨He.ga K "law", fd18⟩ }, rfl, rfl, ?_⟩
  refine { er := (fun i hi => ?_), rm := PySem.W.mg_of X G (He.eqO_ok x7), code := hcode, isinstance := He.free_ok X G (c.fact 19 (f := .free "isinstance") rfl), int := He.free_ok X G (c.fact 20 (f := .free "int") rfl), bool := He.free_ok X G (c.fact 21 (f := .free "bool") rfl), str := He.free_ok X G (c.fact 22 (f := .free "str") rfl), dict := He.free_ok X G (c.fact 23 (f := .free "dict") rfl), list := He.free_ok X G (c.fact 24 (f := .free "list") rfl), tuple := He.free_ok X G (c.fact 25 (f := .free "tuple") rfl), len := He.free_ok X G (c.fact 26 (f := .free "len") rfl), range := He.free_ok X G (c.fact 27 (f := .free "range") rfl), min := He.free_ok X G (c.fact 28 (f := .free "min") rfl), is_int := ⟨F0, He.glo_ok X G (c.fact 0 (f := .glo "is_int") rfl), FunD.bindsN F0 fun _ _ _ _ _ _ us hl => match us, hl with | [_], _ => rfl⟩, is_int_within := ⟨F1, He.glo_ok X G (c.fact 1 (f := .glo "is_int_within") rfl), FunD.bindsN F1 fun _ _ _ _ _ _ us hl => match us, hl with | [_, _, _], _ => rfl⟩, is_bits := ⟨F2, He.glo_ok X G (c.fact 2 (f := .glo "is_bits") rfl), FunD.bindsN F2 fun _ _ _ _ _ _ us hl => match us, hl with | [_], _ => rfl⟩, is_one_bit := ⟨F3, He.glo_ok X G (c.fact 3 (f := .glo "is_one_bit") rfl), FunD.bindsN F3 fun _ _ _ _ _ _ us hl => match us, hl with | [_], _ => rfl⟩, turned := ⟨F4, He.glo_ok X G (c.fact 4 (f := .glo "turned") rfl), FunD.bindsN F4 fun _ _ _ _ _ _ us hl => match us, hl with | [_, _], _ => rfl⟩, dropped := ⟨F5, He.glo_ok X G (c.fact 5 (f := .glo "dropped") rfl), FunD.bindsN F5 fun _ _ _ _ _ _ us hl => match us, hl with | [_, _], _ => rfl⟩, put := ⟨F6, He.glo_ok X G (c.fact 6 (f := .glo "put") rfl), FunD.bindsN F6 fun _ _ _ _ _ _ us hl => match us, hl with | [_, _, _], _ => rfl⟩, check_place := ⟨F7, He.glo_ok X G (c.fact 7 (f := .glo "check_place") rfl), FunD.bindsN F7 fun _ _ _ _ _ _ us hl => match us, hl with | [_, _, _], _ => rfl⟩, _law_is_int := ⟨F8, He.glo_ok X G (c.fact 8 (f := .glo "_law_is_int") rfl), FunD.bindsN F8 fun _ _ _ _ _ _ us hl => match us, hl with | [_], _ => rfl⟩, _law_same := ⟨F9, He.glo_ok X G (c.fact 9 (f := .glo "_law_same") rfl), FunD.bindsN F9 fun _ _ _ _ _ _ us hl => match us, hl with | [_, _], _ => rfl⟩, _law_is_bits := ⟨F10, He.glo_ok X G (c.fact 10 (f := .glo "_law_is_bits") rfl), FunD.bindsN F10 fun _ _ _ _ _ _ us hl => match us, hl with | [_], _ => rfl⟩, _law_start := ⟨F11, He.glo_ok X G (c.fact 11 (f := .glo "_law_start") rfl), FunD.bindsN F11 fun _ _ _ _ _ _ us hl => match us, hl with | [_], _ => rfl⟩, _law_pull := ⟨F12, He.glo_ok X G (c.fact 12 (f := .glo "_law_pull") rfl), FunD.bindsN F12 fun _ _ _ _ _ _ us hl => match us, hl with | [_, _], _ => rfl⟩, _law_row := ⟨F13, He.glo_ok X G (c.fact 13 (f := .glo "_law_row") rfl), FunD.bindsN F13 fun _ _ _ _ _ _ us hl => match us, hl with | [_, _], _ => rfl⟩, _law_outcome := ⟨F14, He.glo_ok X G (c.fact 14 (f := .glo "_law_outcome") rfl), FunD.bindsN F14 fun _ _ _ _ _ _ us hl => match us, hl with | [_], _ => rfl⟩, _law_place := ⟨F15, He.glo_ok X G (c.fact 15 (f := .glo "_law_place") rfl), FunD.bindsN F15 fun _ _ _ _ _ _ us hl => match us, hl with | [_, _], _ => rfl⟩, _law_one_due := ⟨F16, He.glo_ok X G (c.fact 16 (f := .glo "_law_one_due") rfl), FunD.bindsN F16 fun _ _ _ _ _ _ us hl => match us, hl with | [_, _, _, _], _ => rfl⟩, _law_asked := ⟨F17, He.glo_ok X G (c.fact 17 (f := .glo "_law_asked") rfl), FunD.bindsN F17 fun _ _ _ _ _ _ us hl => match us, hl with | [_, _, _], _ => rfl⟩, law := ⟨F18, He.glo_ok X G (c.fact 18 (f := .glo "law") rfl), FunD.bindsN F18 fun _ _ _ _ _ _ us hl => match us, hl with | [_], _ => rfl⟩ }
  have z := all_and (List.all_eq_true.mp x1 _ (ers_mem hi))
  unfold erL at z
  have z1 : oexB K (He.ga K (nmOf i)) = true := z _ (by simp)
  have z2 : He.eqO (PySem.W.nsIn K mainGlobals (nmOf i)) (some (some (.ref (He.ga K (nmOf i))))) = true := z _ (by simp)
  have z3 : He.eqO (PySem.W.findIn K (.ref (He.ga K (nmOf i))) "__setattr__") (some (some (.builtin "object.__setattr__"))) = true := z _ (by simp)
  have z4 : eqB (PySem.W.subIn K (.ref (He.ga K (nmOf i))) (.type "BaseException")) (some true) = true := z _ (by simp)
  have z5 : decide (PySem.W.typeIn K (.ref (He.ga K (nmOf i))) = some (.type "type")) = true := z _ (by simp)
  have z6 : PySem.W.keepIn K (.ref (He.ga K (nmOf i))) = true := z _ (by simp)
  have z7 : He.eqO (PySem.W.findIn K (.ref (He.ga K (nmOf i))) "__getattribute__") (some (some (.builtin "BaseException.__getattribute__"))) = true := z _ (by simp)
  have z8 : He.eqO (PySem.W.findIn K (.ref (He.ga K (nmOf i))) "__getattr__") (some none) = true := z _ (by simp)
  have z9 : PySem.W.hasDictIn K (He.ga K (nmOf i)) = true := z _ (by simp)
  have z10 : He.eqO (PySem.W.findIn K (.ref (He.ga K (nmOf i))) "__class__") (some (some (.builtin "object.__class__"))) = true := z _ (by simp)
  have z11 : eqB (PySem.W.mroIn K (He.ga K (nmOf i)) (.type "object")) (some true) = true := z _ (by simp)
  have z12 : ers.all (fun y => eqB (PySem.W.exmOne K (.ref (He.ga K (nmOf i))) (.ref (He.ga K y.1))) (some (decide (nmOf i = y.1)))) = true := z _ (by simp)
  have z13 : eqB (PySem.W.kitOne K (.ref (He.ga K (nmOf i))) (.ref (He.ga K "RoomError"))) (some true) = true := z _ (by simp)
  have z14 : (fsOf i).all (fun f => He.eqO (PySem.W.findIn K (.ref (He.ga K (nmOf i))) f) (some none)) = true := z _ (by simp)
  have z15 : allF.all (fun f => He.eqO (PySem.W.findIn K (.ref (He.ga K (nmOf i))) f) (some none)) = true := z _ (by simp)
  have z16 : ers.all (fun y => eqB (PySem.W.kitOne K (.ref (He.ga K (nmOf i))) (.ref (He.ga K y.1))) (some (decide (nmOf i = y.1)))) = true := z _ (by simp)
  have z17 : He.eqO (PySem.W.findIn K (.ref (He.ga K (nmOf i))) "__init__") (some (some (.ref (He.ma K (He.ga K (nmOf i)) "__init__")))) = true := z _ (by simp)
  have z18 : decide (PySem.W.typeIn K (.ref (He.ma K (He.ga K (nmOf i)) "__init__")) = some (.type "function")) = true := z _ (by simp)
  refine { ox := ⟨oexB_ok z1, He.eqO_ok z3, eqB_ok z4, of_decide_eq_true z5, z6⟩, gl := PySem.W.mg_of X G (He.eqO_ok z2), is := ⟨He.eqO_ok z7, He.eqO_ok z8, eqB_ok z4, z9, He.eqO_ok z10, He.eqO_ok x5, eqB_ok x6, eqB_ok z11⟩, ex := (fun j hj => ?_), rk := eqB_ok z13, kt := (fun j hj => ?_), no := (fun f hf => He.eqO_ok (List.all_eq_true.mp z14 f hf)), noA := (fun f hf => He.eqO_ok (List.all_eq_true.mp z15 f hf)), ini := He.eqO_ok z17, ti := of_decide_eq_true z18, fn := (fun hf => ?_), sup := (fun hf => ?_) }
  · have q := eqB_ok (List.all_eq_true.mp z12 _ (ers_mem hj))
    rw [nm_inj hi hj] at q
    exact q
  · have q := eqB_ok (List.all_eq_true.mp z16 _ (ers_mem hj))
    rw [nm_inj hi hj] at q
    exact q
  · have e1 : i = 1 := by
      have key : ∀ i : Nat, i < 2 → fsOf i ≠ [] → i = 1 := by decide
      exact key i hi hf
    subst e1
    exact ⟨FI, FunD.bindsN FI fun _ _ _ _ _ _ us hl => match us, hl with | [_, _], _ => rfl⟩
  · have e0 : i = 0 := by
      have key : ∀ i : Nat, i < 2 → fsOf i = [] → i = 0 := by decide
      exact key i hi hf
    subst e0
    have m2 := of_decide_eq_true y2.2
    cases hc : PySem.W.clsIn K (He.ga K (nmOf 0)) with
    | none => rw [hc] at m2; cases m2
    | some cd =>
      rw [hc] at m2
      have m3 : cd.mro = [.ref (He.ga K (nmOf 0)), .ref (He.ga K "RoomError"), .type "ValueError", .type "Exception", .type "BaseException", .type "object"] := Option.some.inj m2
      refine { fn := sups c30 y2.1 rfl, mro := ⟨cd, _, hc, m3, He.eqO_ok x3⟩, sb := ?_, own := ?_, op := He.eqO_ok x4, sup := He.free_ok X G (c.fact 29 (f := .free "super") rfl), top := by decide +kernel }
      · show PySem.W.mroIn K (He.ga K (nmOf 0)) (.type "ValueError") = some true
        unfold PySem.W.mroIn
        rw [hc, Option.bind_some, m3]
        simp
      · unfold PySem.W.mroIn
        rw [hc, Option.bind_some, m3]
        simp
end
end Me
set_option maxHeartbeats 0
open PySem PySem.W PySem.Calls PyProof.Rows
theorem PySem.Challenge.cw_roomleft_k87_bits_turned_dropped_and_put_holds : PySem.Challenge.rw_roomleft_k87_bits_turned_dropped_and_put.Holds := by
  w_on; o_law
  refine HandSHeadRun.head_any (r := OpenLaw.row PySem.Challenge.rw_roomleft_k87_bits_turned_dropped_and_put) (q := view (OpenLaw.row PySem.Challenge.rw_roomleft_k87_bits_turned_dropped_and_put).prog [25]) (H := Me.hk) (ob := Me.ob) (M := 3000) (loose := Me.loose)
    (d := HandSHeadRun.topDef (OpenLaw.row PySem.Challenge.rw_roomleft_k87_bits_turned_dropped_and_put).prog 25) (kwd := []) Me.ob_eq
    (by kernel_rfl) (fun s => by kernel_rfl) Me.run (by kernel_rfl) (by kernel_rfl) (by kernel_rfl) (by rfl) (by first | assumption | decide +kernel) (by decide +kernel) ⟨rfl, rfl, rfl, rfl, rfl, by decide +kernel⟩ ?hw ?hc
  case hw => w_witness2
  case hc =>
    refine LamX.walk_ofTsE (l := PySem.Challenge.rw_roomleft_k87_bits_turned_dropped_and_put) (n := 63) (k := 8) (x := "_law_script") (CX := fun _ => L2.CX0) rfl (by decide) (by kernel_rfl) ⟨rfl, by decide, by decide⟩ ?F (fun _ _ _ _ _ z => z)
    intro w mg f h Y G hmg0
    obtain ⟨K, KX, c⟩ := Y
    have hmg : mg ("law" : PySem.Str) = some (.ref f) := by
      have e : (HandSHeadRun.topDef (OpenLaw.row PySem.Challenge.rw_roomleft_k87_bits_turned_dropped_and_put).prog 25).name = ("law" : PySem.Str) := by kernel_rfl
      rw [← e]
      exact hmg0
    obtain ⟨a, ea, et, T⟩ := Me.mk_txt KX G c.t
    have ef := hmg.symm.trans T.law.mg
    cases ef
    have hm : (("_law_asked", none) : He.Defn) ∈ Me.tf := List.mem_cons_self
    have e1 := c.empty _ hm
    have e2 := c.out _ hm
    have e3 := c.hd _ hm
    rw [← et] at e1 e2 e3
    refine ⟨K, KX, a.law.fd, [(a.tc, a.tp)], Me.spLaw K a, fun p hp => by rw [List.mem_singleton.mp hp]; exact e1, fun p hp => by rw [List.mem_singleton.mp hp]; exact e2, fun p hp => by rw [List.mem_singleton.mp hp]; exact PySem.W.codeHd_of_K KX e3, fun s v => ?_, fun H b ns hl _ hT hS => ⟨b, ns, rfl, hS, hl, fun p hp => by rw [List.mem_singleton.mp hp]; exact LamX.TabS.nil (hT _ List.mem_cons_self), fun _ => rfl⟩, fun base _ _ TB => Me.ok_law T (TB _ List.mem_cons_self)⟩
    exact L2.FunD.bindsA (ps := ["_law_script"]) T.law.fn (fun _ _ _ _ _ _ us hl => match us, hl with | [_], _ => rfl) s [v] rfl
