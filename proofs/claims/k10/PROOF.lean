import PyProof.Rows.All
import Wide.All
import OpenK.AllK
import Wide.FinOn
import KE.KStateDown
import KE.KExcSuper
import HandS.Base
import HandS.Call
import HandS.Ends
import HandS.More
import HandS.Words
import HandS.Exc
import HandS.Defaults
import HandS.HeadHook1
import HandS.HeadHook2
import HandS.HeadHook4
import HandS.Head0
import HandS.Head1
import HandS.Head2
import HandS.ForMost
import HandS.ForExc
import HandS.ExcInit
import HandS.ExcField
import HandS.IsInst
import HandS.Wide
import KE.KIntText
import KE.IntTextLaws
import PyProof.RangeFor
import HandS.Codes
import HandS.IntHex
import PyProof.FString3
import PyProof.Rows.StrIntSpec
import KE.KDictKeyed
import KE.KeyNested
import HandS.SetKeys
import KE.SortKeyHeap
import KE.SortCalls
import KE.KLam
import HandS.Lambda
import HandS.SortKw
import KE.GoesMore
import PyProof.EnumMake
import HandS.Iter
import HandS.RaiseMore
import HandS.TupAny
import HandS.Style
import PyProof.StrOps2
import KE.KExcIs
import HandS.WordsExc
import HandS.HotCalls
import HandS.TryMany
import HandS.StrMore
import PyProof.Rows.StrCut
import HandS.WideBits
import HandS.WideMore
import PyProof.PureStr
import PyProof.StrBlock
import HandS.FStr
import HandS.Dict
import HandS.Walk
import HandS.DictComp
import HandS.Small
import HandS.WordsDict
import HandS.ExcOwn
import HandS.CallSlots
import HandS.TupLe
import PyProof.StrLawsRepr
import HandS.HeadEnd
import HandS.HeadWalk
import PySem.Challenge.RW_roomleft_k10_numbers_tight_and_wide
set_option Elab.async false
set_option linter.all false
set_option maxRecDepth 100000
set_option maxHeartbeats 8000000
namespace Me
open PySem PySem.Spec PyProof.Rows L2
/-! ### the text -/
def top (i : Nat) : Stmt := PySem.Challenge.pw_roomleft_k10_numbers_tight_and_wide.main.body.getD i (.Pass ⟨0, 0, 0, 0⟩)
/-- the errors, with their field -/
def ers : List (Str × Str) := [("BadValue", "path"), ("BadBits", "at"), ("TooFew", "due"), ("Left", "at")]
def iniOf (i : Nat) : Stmt := inClass (top (i + 22)) 0
def nmOf (i : Nat) : Str := (ers.getD i ("", "")).1
def fOf (i : Nat) : Str := (ers.getD i ("", "")).2
/-! ### what is asked of the written part -/
/-- an error's class: its object -/
def oexB (K : PySem.W.Frag) (C : Addr) : Bool := match K.lookup C with
  | some ⟨.type "type", _, .cls cd, sl⟩ => (match cd.mro, sl.toList with
    | .ref C' :: bm, [_, _, _, _, some (.builtin n), _] => C' == C && (n == "ValueError.__new__" && (!cd.hasDel && (cd.hasDict && PySem.HandSPX.refsVE bm)))
    | _, _ => false)
  | _ => false
def allF : List Str := ["path", "at", "due"]
def eqB (a b : Option Bool) : Bool := decide (a = b)
def erL (K : PySem.W.Frag) (x : Str) : List Bool :=
  [oexB K (He.ga K x), He.eqO (PySem.W.nsIn K mainGlobals x) (some (some (.ref (He.ga K x)))), He.eqO (PySem.W.findIn K (.ref (He.ga K x)) "__setattr__") (some (some (.builtin "object.__setattr__"))),
   eqB (PySem.W.subIn K (.ref (He.ga K x)) (.type "BaseException")) (some true), decide (PySem.W.typeIn K (.ref (He.ga K x)) = some (.type "type")), PySem.W.keepIn K (.ref (He.ga K x)),
   He.eqO (PySem.W.findIn K (.ref (He.ga K x)) "__getattribute__") (some (some (.builtin "BaseException.__getattribute__"))), He.eqO (PySem.W.findIn K (.ref (He.ga K x)) "__getattr__") (some none), PySem.W.hasDictIn K (He.ga K x),
   He.eqO (PySem.W.findIn K (.ref (He.ga K x)) "__class__") (some (some (.builtin "object.__class__"))), eqB (PySem.W.mroIn K (He.ga K x) (.type "object")) (some true), ers.all (fun y => eqB (PySem.W.exmOne K (.ref (He.ga K x)) (.ref (He.ga K y.1))) (some (decide (x = y.1)))),
   allF.all (fun f => He.eqO (PySem.W.findIn K (.ref (He.ga K x)) f) (some none)),
   He.eqO (PySem.W.findIn K (.ref (He.ga K x)) "__init__") (some (some (.ref (He.ma K (He.ga K x) "__init__")))), decide (PySem.W.typeIn K (.ref (He.ma K (He.ga K x) "__init__")) = some (.type "function"))]
def made : List Str := ["Number", "Lengths", "TightNode", "WideNode", "Plan", "Edition", "Draft", "Parse"]
def asked : List Str := ["Nothing", "Number", "Bits", "Call", "Items", "Choice", "Row", "Door", "BodyNode"]
/-- the class of an object of the program's own -/
def kcL (K : PySem.W.Frag) (x : Str) : List Bool :=
  [He.eqO (PySem.W.nsIn K mainGlobals x) (some (some (.ref (He.ga K x)))), He.eqO (PySem.W.findIn K (.ref (He.ga K x)) "__class__") (some (some (.builtin "object.__class__"))), eqB (PySem.W.mroIn K (He.ga K x) (.type "object")) (some true),
   asked.all (fun y => eqB (PySem.W.kitOne K (.ref (He.ga K x)) (.ref (He.ga K y))) (some (decide (x = y))))]
def exL (K : PySem.W.Frag) : List Bool :=
  [ers.all (fun y => (erL K y.1).all id), made.all (fun y => (kcL K y).all id), asked.all (fun x => He.eqO (PySem.W.nsIn K mainGlobals x) (some (some (.ref (He.ga K x))))),
   He.eqO (PySem.W.specialIn K (.builtin "object.__class__") "__get__") (some (some (.builtin "getset_descriptor.__get__"))), eqB (PySem.W.takesIn K (.builtin "object.__class__")) (some true)]
def exB (K : PySem.W.Frag) : Bool := (exL K).all id
def dG (x : Str) (i : Nat) (d : List He.Dv) : He.DefD := ⟨(x, none), x, x, defArgs (top i), defBody (top i), defScope (top i), d, []⟩
def dM (c m : Str) (i j : Nat) (d : List He.Dv) : He.DefD := ⟨(c, some m), m, c ++ "." ++ m, defArgs (inClass (top i) j), defBody (inClass (top i) j), defScope (inClass (top i) j), d, []⟩
def dI (i : Nat) : He.DefD := ⟨(nmOf i, some "__init__"), "__init__", nmOf i ++ ".__init__", defArgs (iniOf i), defBody (iniOf i), defScope (iniOf i), [], []⟩
def fn1a : List He.DefD := [dG "is_int" 2 [], dG "is_int_within" 3 [], dG "is_name" 4 [], dG "is_bits" 5 [], dG "how_many_integers" 8 [], dG "tight_code" 9 [], dG "bits_of" 10 [], dG "number_bits" 11 [], dG "is_simple" 32 [], dG "inner_kinds" 45 [], dG "called_names" 46 [], dG "reached_names" 47 [], dG "checked_calls" 48 [], dG "check_bodies" 52 [], dG "bodies_of" 53 [], dG "rooms_of" 54 [], dG "ended" 58 [], dG "number_node" 70 [], dG "first_threads" 73 [], dG "lack_of" 74 [], dG "fed" 75 [], dG "path_of" 76 [], dG "fed_all" 77 [], dG "are_whole" 78 [], dG "least_lack" 79 [], dG "check_parts" 83 [], dG "are_kinds" 84 [], dG "is_named_kind" 85 [], dG "check_rooms" 86 [], dG "taken_room" 87 []]
def fn1b : List He.DefD := [dG "kind_name" 88 [], dG "written" 90 [.non], dG "check" 92 [], dG "read" 99 [.non], dG "read_first" 100 [.non], dG "first_end" 101 [], dG "is_value" 103 [.non], dG "_law_same" 105 [], dG "_law_start" 106 [], dG "_law_pull" 107 [], dG "_law_big" 108 [], dG "_law_binary" 109 [], dG "_law_code" 110 [], dG "_law_due" 111 [], dG "_law_told" 112 [], dG "_law_refused" 113 [], dG "_law_values_hold" 114 [], dG "_law_rows_hold" 115 [], dG "_law_fills" 116 [], dG "law" 117 []]
def fn1 : List He.DefD := fn1a ++ fn1b
def fn2 : List He.DefD := [dM "Number" "__init__" 28 0 [.non], dM "Lengths" "__init__" 50 0 [], dM "TightNode" "__init__" 60 0 [], dM "TightNode" "begin" 60 1 [], dM "TightNode" "owed" 60 2 [], dM "TightNode" "feed" 60 3 [], dM "WideNode" "__init__" 61 0 [], dM "WideNode" "begin" 61 1 [], dM "WideNode" "owed" 61 2 [], dM "WideNode" "feed" 61 3 [], dM "Plan" "__init__" 69 0 [], dM "Plan" "node_of" 69 1 [], dM "Plan" "made" 69 2 [], dM "Plan" "same" 69 3 [], dM "Edition" "__init__" 82 0 [], dM "Draft" "__init__" 91 0 [], dM "Draft" "as_bits" 91 1 [], dM "Draft" "write" 91 2 [], dM "Parse" "__init__" 97 0 [], dM "Parse" "cut" 97 1 [], dM "Parse" "number" 97 2 [], dM "Parse" "value" 97 3 [], dM "Parse" "integer" 97 4 []]
def fn3 : List He.DefD := [dI 0, dI 1, dI 2, dI 3]
def fn : List He.DefD := fn1 ++ (fn2 ++ fn3)
def gls1 : List Str := ["is_int", "is_int_within", "is_name", "is_bits", "how_many_integers", "tight_code", "bits_of", "number_bits", "is_simple", "inner_kinds", "called_names", "reached_names", "checked_calls", "check_bodies", "bodies_of", "rooms_of", "ended", "number_node", "first_threads", "lack_of", "fed", "path_of", "fed_all", "are_whole", "least_lack", "check_parts", "are_kinds", "is_named_kind", "check_rooms", "taken_room"]
def gls2 : List Str := ["kind_name", "written", "check", "read", "read_first", "first_end", "is_value", "_law_same", "_law_start", "_law_pull", "_law_big", "_law_binary", "_law_code", "_law_due", "_law_told", "_law_refused", "_law_values_hold", "_law_rows_hold", "_law_fills", "law"]
def gls : List Str := gls1 ++ gls2
def frees : List Str := ["isinstance", "int", "bool", "str", "dict", "list", "tuple", "len", "range", "all", "any", "enumerate", "min", "max", "sorted", "sum", "repr"]
def fields : List Str := ["low", "high", "width", "named", "count", "most", "known", "size", "bar", "least", "top", "states", "counts", "nodes", "shared", "plan", "pieces", "text", "at", "own", "passed", "_kinds", "root"]
def meths : List (Str × Str) := [("TightNode", "begin"), ("TightNode", "owed"), ("TightNode", "feed"), ("WideNode", "begin"), ("WideNode", "owed"), ("WideNode", "feed"), ("Plan", "node_of"), ("Plan", "made"), ("Plan", "same"), ("Draft", "as_bits"), ("Draft", "write"), ("Parse", "cut"), ("Parse", "number"), ("Parse", "value"), ("Parse", "integer")]
def fa : List He.Fa := gls.map .glo ++ (frees.map .free ++ ([.int "NO_BODY" (-1), .int "NEVER" (-1)] ++ (made.map .cls ++ (made.map .mkr ++ (meths.map (fun p => .meth p.1 p.2) ++ (made.flatMap fun c => fields.map fun f => .noat c f))))))
/-- the defs that make lambdas -/
def tf : List He.Defn := [("check_rooms", none)]
/-! ### the Hook -/
/-- where a global name's object stands -/
def gaG (g : Addr → Option Obj) (x : Str) : Addr := match g mainGlobals with
  | some ⟨_, _, .dict es _, _⟩ => (match es.toList.find? (fun e => e.key.isStr x) with
    | some e => (match e.val with
      | .ref a => a
      | _ => 0)
    | none => 0)
  | _ => 0
def fnRefs (g : Addr → Option Obj) (f : Addr) : List Addr := match g f with
  | some ⟨_, _, .func fd, _⟩ => (match fd.code with
    | .ref c => [c]
    | _ => []) ++ (match fd.defaults with
    | .ref d => [d]
    | _ => [])
  | _ => []
def nsVals (g : Addr → Option Obj) (n : Addr) : List Addr := match g n with
  | some ⟨_, _, .dict es _, _⟩ => es.toList.filterMap fun e => (match e.val with
    | .ref a => some a
    | _ => none)
  | _ => []
def clsNs (g : Addr → Option Obj) (C : Addr) : List Addr := match g C with
  | some ⟨_, _, .cls cd, _⟩ => [cd.ns]
  | _ => []
def clsE : List Str := ["RoomError", "BadValue", "BadBits", "TooFew", "Left"]
def clsN : List Str := clsE ++ (made ++ asked)
/-- the addresses of the written part -/
def asK (g : Addr → Option Obj) (_ : Nat) : List Addr :=
  let cs := clsN.map (gaG g)
  let ns := cs.flatMap (clsNs g)
  let fs := gls.map (gaG g) ++ ns.flatMap (nsVals g)
  mainGlobals :: cStatics :: (cs ++ (ns ++ (fs ++ fs.flatMap (fnRefs g))))
abbrev AlK : Type := (He.AlD × Bool) × Bool
def obsK0 (K : PySem.W.Frag) : He.AlD × Bool := (He.obsD fa fn K, exB K)
def valK0 : He.AlD × Bool := (He.valD fn, true)
def valK : AlK := (valK0, true)
def obK (g : Addr → Option Obj) : AlK := (obsK0 (He.frT g (asK g 4)), He.tabsB g tf (He.frT g (asK g 4)))
/-- what is known of the written part, and of the defs' tables -/
structure Says (h : Heap) (K : PySem.W.Frag) : Prop where
  t : obsK0 K = valK0
  hd : ∀ p ∈ tf, PySem.W.codeHdIn K (He.cT K p).1 (He.cT K p).2 = true
  out : ∀ p ∈ tf, K.lookup (He.cT K p).2 = none
  empty : ∀ p ∈ tf, h.get? (He.cT K p).2 = some { cls := .none, data := .fields #[] }
theorem says_of {h : Heap} (e : obK h.get? = valK) : Says h (He.frT h.get? (asK h.get? 4)) := by
  have e1 : obsK0 (He.frT h.get? (asK h.get? 4)) = valK0 := congrArg (fun z : AlK => z.1) e
  have e2 : He.tabsB h.get? tf (He.frT h.get? (asK h.get? 4)) = true := congrArg (fun z : AlK => z.2) e
  have key : ∀ p ∈ tf, PySem.W.codeHdIn (He.frT h.get? (asK h.get? 4)) (He.cT (He.frT h.get? (asK h.get? 4)) p).1 (He.cT (He.frT h.get? (asK h.get? 4)) p).2 = true ∧ ∃ o, h.get? (He.cT (He.frT h.get? (asK h.get? 4)) p).2 = some o ∧ He.emptyTab o = true := fun p hp => by
    obtain ⟨h3, h4⟩ := Bool.and_eq_true_iff.mp (List.all_eq_true.mp e2 p hp)
    refine ⟨h3, ?_⟩
    cases q : h.get? (He.cT (He.frT h.get? (asK h.get? 4)) p).2 with
    | none =>
      rw [q] at h4
      cases h4
    | some o =>
      rw [q] at h4
      exact ⟨o, rfl, h4⟩
  exact ⟨e1, fun p hp => (key p hp).1, fun p hp => by
    obtain ⟨_, o, q, z⟩ := key p hp
    exact He.frT_none q z, fun p hp => by
    obtain ⟨_, o, q, z⟩ := key p hp
    rw [q, He.emptyTab_eq z]⟩
def hk : PySem.W.Hook where
  α := AlK
  obs := fun s => obK s.heap.get?
  val := fun _ => valK
  says := fun _ h => ∃ K : PySem.W.Frag, K.In h ∧ Says h K
  of := fun _ _ e => ⟨_, He.frT_in, says_of e⟩
  keeps := fun _ _ _ ⟨K, hK, c⟩ k => ⟨K, PySem.W.Frag.In.keeps hK k, ⟨c.t, c.hd, c.out, fun p hp => k _ _ (c.empty p hp)⟩⟩
theorem obK_eq {g : Addr → Option Obj} {s : Shared} (h : ∀ a, g a = s.heap.get? a) : obK g = hk.obs s := by
  have e : g = s.heap.get? := funext h
  rw [e] <;> rfl
end Me
set_option maxHeartbeats 0
namespace Me
open PySem PySem.Spec PyProof.Rows L2
open PySem.W HandSHeadRun
abbrev R : PySem.W.OpenRow := PySem.W.OpenLaw.row PySem.Challenge.rw_roomleft_k10_numbers_tight_and_wide
def ob (s : PySem.W.SharedT) : AlK := obK (HandSHeadRun.getT s)
theorem ob_eq (s : PySem.W.SharedT) : ob s = hk.obs s.abs := obK_eq (HandSHeadRun.getT_eq s)
def loose1 : List PySem.Str := ["NO_BODY", "NEVER", "RoomError", "BadKind", "BadEdition", "MissingKind", "RingOfCalls", "LongBody", "RoomTaken", "NoKind", "NoBits", "BadValue", "BadBits"]
def loose2 : List PySem.Str := ["TooFew", "Left", "Nothing", "Number", "Bits", "Call", "Items", "Way", "Door", "Part", "Room", "Choice", "Row"]
def loose3 : List PySem.Str := ["Lengths", "NothingNode", "TightNode", "WideNode", "BitsNode", "RunNode", "CountedNode", "ChoiceNode", "RowNode", "BodyNode", "Plan", "Edition", "Draft"]
def loose4 : List PySem.Str := ["Parse", "_wall", "is_int", "is_int_within", "is_name", "is_bits", "is_word", "how_many_integers", "tight_code", "bits_of", "number_bits", "is_simple", "check_word_and_name"]
def loose5 : List PySem.Str := ["are_ways", "are_parts", "have_unlike_names", "are_apart", "inner_kinds", "called_names", "reached_names", "checked_calls", "number_lengths", "check_bodies", "bodies_of", "rooms_of", "ended"]
def loose6 : List PySem.Str := ["number_node", "items_node", "first_threads", "lack_of", "fed", "path_of", "fed_all", "are_whole", "least_lack", "refuse", "check_parts", "are_kinds", "is_named_kind"]
def loose7 : List PySem.Str := ["check_rooms", "taken_room", "kind_name", "written", "check", "used_way", "is_filling", "has_keys", "read", "read_first", "first_end", "is_value", "_law_same"]
def loose8 : List PySem.Str := ["_law_start", "_law_pull", "_law_big", "_law_binary", "_law_code", "_law_due", "_law_told", "_law_refused", "_law_values_hold", "_law_rows_hold", "_law_fills"]
def loose : List PySem.Str := loose1 ++ loose2 ++ loose3 ++ loose4 ++ loose5 ++ loose6 ++ loose7 ++ loose8
def KK (s : PySem.W.SharedT) : PySem.W.Frag := He.frT (HandSHeadRun.getT s) (asK (HandSHeadRun.getT s) 4)
theorem runA (w : World) (os : OsState) : (HandSHeadRun.endF (stepQ (denQ tabQ) R.prog w) 20000 R.prog w os).map (fun s => (looksF R.prog (PySem.W.boot_heap w.params) s.abs, seenQ (PySem.W.view R.prog [117]) loose (importedModules R.prog.main.body) (fun s => xlAt (PySem.W.view R.prog [117]) [] s && recOk R.toRowW.records s) s.abs)) = some (true, openGood (PySem.W.view R.prog [117]) loose) := by kernel_rfl
theorem runB (w : World) (os : OsState) : (HandSHeadRun.endF (stepQ (denQ tabQ) R.prog w) 20000 R.prog w os).map (fun s => fa.all fun f => f.ok (KK s)) = some true := by kernel_rfl
theorem runB2 (w : World) (os : OsState) : (HandSHeadRun.endF (stepQ (denQ tabQ) R.prog w) 20000 R.prog w os).map (fun s => fn.map fun d => He.fnW (KK s) d.at_) = some (fn.map He.DefD.val) := by kernel_rfl
theorem runC (w : World) (os : OsState) : (HandSHeadRun.endF (stepQ (denQ tabQ) R.prog w) 20000 R.prog w os).map (fun s => ((exL (KK s)).take 1).all id) = some true := by kernel_rfl
theorem runC2 (w : World) (os : OsState) : (HandSHeadRun.endF (stepQ (denQ tabQ) R.prog w) 20000 R.prog w os).map (fun s => ((exL (KK s)).drop 1).all id && fn.all fun d => d.ok (KK s)) = some true := by kernel_rfl
theorem runD (w : World) (os : OsState) : (HandSHeadRun.endF (stepQ (denQ tabQ) R.prog w) 20000 R.prog w os).map (fun s => He.tabsB (HandSHeadRun.getT s) tf (KK s)) = some true := by kernel_rfl
theorem all_parts (l : List Bool) (h1 : (l.take 1).all id = true) (h2 : (l.drop 1).all id = true) : l.all id = true := by
  rw [← List.take_append_drop 1 l, List.all_append, h1, h2]; rfl
theorem run (w : World) : HandSHeadRun.RunEq R (PySem.W.view R.prog [117]) hk ob 20000 loose w := by
  intro os
  have a := runA w os
  have b := runB w os
  have b2 := runB2 w os
  have c := runC w os
  have c2 := runC2 w os
  have d := runD w os
  revert a b b2 c c2 d
  generalize (HandSHeadRun.endF (stepQ (denQ tabQ) R.prog w) 20000 R.prog w os) = e
  intro a b b2 c c2 d
  cases e with
  | none => cases a
  | some s =>
    have a := Option.some.inj a
    have b := Option.some.inj b
    have b2 := Option.some.inj b2
    have c := Option.some.inj c
    have c2 := Option.some.inj c2
    have d := Option.some.inj d
    dsimp only at a b b2 c c2 d
    obtain ⟨c2, b3⟩ := Bool.and_eq_true_iff.mp c2
    have e1 : exB (KK s) = true := all_parts _ c c2
    have e2 : ob s = hk.val w := by
      show (((((fa.all fun f => f.ok (KK s)) && fn.all fun d => d.ok (KK s)), fn.map fun d => He.fnW (KK s) d.at_), exB (KK s)), He.tabsB (HandSHeadRun.getT s) tf (KK s)) = (((true, fn.map He.DefD.val), true), true)
      rw [b, b3, b2, e1, d]
      rfl
    obtain ⟨a1, a2⟩ := Prod.mk.inj a
    show some (looksF R.prog (PySem.W.boot_heap w.params) s.abs, seenQ (PySem.W.view R.prog [117]) loose (importedModules R.prog.main.body) (fun s => xlAt (PySem.W.view R.prog [117]) [] s && recOk R.toRowW.records s) s.abs, ob s) = some (true, openGood (PySem.W.view R.prog [117]) loose, hk.val w)
    rw [a1, a2, e2]
    rfl
end Me
set_option maxHeartbeats 8000000
namespace Me
open PySem L2
/-! ### the readings, one step each, what follows last -/
section
variable {σ : L2.St} {H : Hp} {Q : VK} {QB : Bool → Hp → Prop} {QA : List V → Hp → Prop} {D : Ends} {K : PySem.W.Frag}
theorem i_var {i : Nat} {v : V} (e : σ[i]? = some (some v)) (q : Q v H) : tVar i σ H Q := ⟨v, e, q⟩
theorem i_c {v : V} (q : Q v H) : tC v σ H Q := q
theorem i_op {r : R2} {ta tb : TE} (q : ta σ H fun x H1 => tb σ H1 fun y H2 => r x y H2 Q) : tOp r ta tb σ H Q := q
theorem i_un {r : V → Hp → VK → Prop} {ta : TE} (q : ta σ H fun x H1 => r x H1 Q) : tUn r ta σ H Q := q
theorem i_nil (q : QA [] H) : tNil σ H QA := q
theorem i_cons {ta : TE} {tr : TA} (q : ta σ H fun x H1 => tr σ H1 fun xs H2 => QA (x :: xs) H2) : tCons ta tr σ H QA := q
theorem i_cb {r : List V → Hp → VK → Prop} {t : TA} (q : t σ H fun vs H1 => r vs H1 Q) : tCB r t σ H Q := q
theorem i_call {sp : Sp} {dvs : List V} {E : XK} {t : TA} (q : t σ H fun vs H1 => sp (vs ++ dvs) H1 Q E) : tCall sp dvs E t σ H Q := q
theorem i_seq {t u : TS} (q : t { D with nx := u D } σ H) : tSeq t u D σ H := q
theorem i_next (q : D.nx σ H) : tNext D σ H := q
theorem i_asg {te : TE} {g : TG} (q : te σ H fun x H1 => g x σ H1 D.nx) : tAsg te g D σ H := q
theorem i_gname {i : Nat} {v : V} {R : L2.St → Hp → Prop} (q : R (σ.set i (some v)) H) : gName i v σ H R := q
theorem i_gsub {to ti : TE} {t : TSet} {v : V} {R : L2.St → Hp → Prop} (q : to σ H fun o H1 => ti σ H1 fun i H2 => t o i v H2 fun H3 => R σ H3) : gSub to ti t v σ H R := q
theorem i_ret {te : TE} (q : te σ H D.rt) : tRet te D σ H := q
theorem i_retN (q : D.rt .non H) : tRetN D σ H := q
theorem i_drop {te : TE} (q : te σ H fun _ H1 => D.nx σ H1) : tDrop te D σ H := q
theorem i_ifS {c : TT} {t u : TS} (q : c σ H fun b H1 => if b = true then t D σ H1 else u D σ H1) : tIfS c t u D σ H := q
theorem i_if {c : TT} {ta tb : TE} (q : c σ H fun b H1 => if b = true then ta σ H1 Q else tb σ H1 Q) : tIf c ta tb σ H Q := q
theorem i_and {t u : TT} (q : t σ H fun c H1 => if c = true then u σ H1 QB else QB false H1) : tAnd t u σ H QB := q
theorem i_or {t u : TT} (q : t σ H fun c H1 => if c = true then QB true H1 else u σ H1 QB) : tOr t u σ H QB := q
theorem i_not {t : TT} (q : t σ H fun c H1 => QB (!c) H1) : tNot t σ H QB := q
theorem i_andV {ta tb : TE} (q : ta σ H fun x H1 => ∃ c, x = .bl c ∧ if c = true then tb σ H1 Q else Q (.bl false) H1) : tAndV ta tb σ H Q := q
theorem i_orV {ta tb : TE} (q : ta σ H fun x H1 => ∃ c, x = .bl c ∧ if c = true then Q (.bl true) H1 else tb σ H1 Q) : tOrV ta tb σ H Q := q
theorem i_notV {ta : TE} (q : ta σ H fun x H1 => ∃ c, x = .bl c ∧ Q (.bl (!c)) H1) : tNotV ta σ H Q := q
theorem i_test {t : TE} (q : t σ H fun x H' => ∃ k, x = .bl k ∧ QB k H') : tTest t σ H QB := q
theorem i_tB {t : TE} (q : t σ H fun x H' => ∃ k, x = .bl k ∧ QB k H') : tB t σ H QB := q
theorem i_bl {b : Bool} {R : Bool → Prop} (q : R b) : ∃ k, V.bl b = .bl k ∧ R k := ⟨b, rfl, q⟩
theorem i_rI0 {g : Int → Int → V} {i j : Int} (q : Q (g i j) H) : rI0 g (.int i) (.int j) H Q := ⟨i, j, rfl, rfl, q⟩
theorem i_rI {C : Int → Int → Prop} {g : Int → Int → V} {i j : Int} (c : C i j) (q : Q (g i j) H) : rI C g (.int i) (.int j) H Q := ⟨i, j, rfl, rfl, c, q⟩
theorem i_rU {g : Int → V} {i : Int} (q : Q (g i) H) : rU g (.int i) H Q := ⟨i, rfl, q⟩
theorem i_rEq {x y : V} (s : scal x y = true) (q : Q (.bl (decide (x = y))) H) : rEq x y H Q := ⟨s, q⟩
theorem i_rNe {x y : V} (s : scal x y = true) (q : Q (.bl (!decide (x = y))) H) : rNe x y H Q := ⟨s, q⟩
theorem i_ixl {p : Addr} {xs : List V} {i : Int} {v : V} (h : H p = some (.lst xs)) (e : atI xs i = some v) (q : Q v H) : rIxL K (.ref p) (.int i) H Q := ⟨p, xs, i, v, rfl, rfl, SqL.of h, e, q⟩
theorem i_ixt {p : Addr} {xs : List V} {i : Int} {v : V} (h : H p = some (.tup xs)) (e : atI xs i = some v) (q : Q v H) : rIxT K (.ref p) (.int i) H Q := ⟨p, xs, i, v, rfl, rfl, SqT.of h, e, q⟩
theorem i_setl {p : Addr} {xs : List V} {k : Int} {j : Nat} {v : V} {R : Hp → Prop} (h : H p = some (.lst xs)) (e : ixN xs.length k = some j) (q : R (upd H p (.lst (xs.set j v)))) : rSetL (.ref p) (.int k) v H R := ⟨p, xs, k, j, rfl, rfl, h, e, q⟩
theorem i_lst {t : TA} (q : t σ H fun xs H1 => xs.length ≤ sizeLine ∧ ∀ p, H1 p = none → Q (.ref p) (upd H1 p (.lst xs))) : tLst t σ H Q := q
theorem i_tup {t : TA} (q : t σ H fun xs H1 => xs.length ≤ sizeLine ∧ ∀ p, H1 p = none → Q (.ref p) (upd H1 p (.tup xs))) : tTup t σ H Q := q
theorem i_dnew (q : ∀ p, H p = none → Q (.ref p) (upd H p (.dK []))) : tDNewK σ H Q := q
theorem i_len {p : Addr} {xs : List V} {R : V → Hp → Prop} {vs : List V} (ev : vs = [.ref p]) (h : H p = some (.lst xs)) (q : R (.int xs.length) H) : ∃ (p : Addr) (ys : List V), vs = [V.ref p] ∧ (SqL K H p ys ∨ SqT K H p ys) ∧ R (.int ys.length) H := ⟨p, xs, ev, .inl (SqL.of h), q⟩
theorem i_lenT {p : Addr} {xs : List V} {R : V → Hp → Prop} {vs : List V} (ev : vs = [.ref p]) (h : H p = some (.tup xs)) (q : R (.int xs.length) H) : ∃ (p : Addr) (ys : List V), vs = [V.ref p] ∧ (SqL K H p ys ∨ SqT K H p ys) ∧ R (.int ys.length) H := ⟨p, xs, ev, .inr (SqT.of h), q⟩
end
/-! ### tests -/
theorem i_itd {p : Prop} [Decidable p] {A B : Prop} (ht : p → A) (hf : ¬ p → B) : if decide p = true then A else B := by
  by_cases h : p
  · rw [if_pos (decide_eq_true h)]; exact ht h
  · rw [decide_eq_false h, if_neg Bool.false_ne_true]; exact hf h
theorem i_itn {p : Prop} [Decidable p] {A B : Prop} (ht : ¬ p → A) (hf : p → B) : if (!decide p) = true then A else B := by
  by_cases h : p
  · rw [decide_eq_true h]; exact hf h
  · rw [decide_eq_false h]; exact ht h
theorem i_itb {c : Bool} {A B : Prop} (ht : c = true → A) (hf : c = false → B) : if c = true then A else B := by
  cases c
  · exact hf rfl
  · exact ht rfl
theorem i_itei {a b : Int} {A B : Prop} (ht : a = b → A) (hf : a ≠ b → B) : if decide (V.int a = V.int b) = true then A else B :=
  i_itd (fun h => ht (V.int.inj h)) fun h => hf fun e => h (by rw [e])
theorem i_iten {a b : Int} {A B : Prop} (ht : a ≠ b → A) (hf : a = b → B) : if (!decide (V.int a = V.int b)) = true then A else B :=
  i_itn (fun h => ht fun e => h (by rw [e])) fun h => hf (V.int.inj h)
theorem i_ites {a b : Str} {A B : Prop} (ht : a = b → A) (hf : a ≠ b → B) : if decide (V.str a = V.str b) = true then A else B :=
  i_itd (fun h => ht (V.str.inj h)) fun h => hf fun e => h (by rw [e])
theorem i_itesn {a b : Str} {A B : Prop} (ht : a ≠ b → A) (hf : a = b → B) : if (!decide (V.str a = V.str b)) = true then A else B :=
  i_itn (fun h => ht fun e => h (by rw [e])) fun h => hf (V.str.inj h)
/-! ### the heap -/
theorem upd_get {H : Hp} {a b : Addr} {o : HO} {u : Option HO} (n : b ≠ a) (h : H b = u) : upd H a o b = u := by rw [upd_ne n]; exact h
theorem upd_none {H : Hp} {a b : Addr} {o : HO} (h : upd H a o b = none) : b ≠ a ∧ H b = none := by
  by_cases e : b = a
  · subst e; rw [upd_same] at h; cases h
  · rw [upd_ne e] at h; exact ⟨e, h⟩
theorem ne_lt {H : Hp} {a b : Addr} {xs ys : List V} (h : H a = some (.lst xs)) (h' : H b = some (.tup ys)) : a ≠ b := ne_of h h' (by intro z; cases z)
theorem ne_ll {H : Hp} {a b : Addr} {xs ys : List V} (h : H a = some (.lst xs)) (h' : H b = some (.lst ys)) (n : xs ≠ ys) : a ≠ b := ne_of h h' (by intro z; cases z; exact n rfl)
/-! ### the script's reader -/
/-- at p: a list of the items' list (at L), a place, a number that is used up, a number that is stirred -/
def StAt (H : Hp) (p L : Addr) : Prop := ∃ (ns : List Int) (i b c : Int), H p = some (.lst [.ref L, .int i, .int b, .int c]) ∧ H L = some (.lst (ns.map V.int)) ∧ ns.length ≤ 63 ∧ 0 ≤ i ∧ 0 ≤ b ∧ 0 ≤ c ∧ c < 2147483647
def StOk (H : Hp) (p : Addr) : Prop := ∃ L, StAt H p L
/-- the reader has gone on, nothing else has changed -/
def Went (p : Addr) (H H' : Hp) : Prop := StOk H' p ∧ (∀ a o, a ≠ p → H a = some o → H' a = some o) ∧ ∀ L, StAt H p L → StAt H' p L
theorem Went.get {p : Addr} {H H' : Hp} {a : Addr} {o : HO} (w : Went p H H') (n : a ≠ p) (h : H a = some o) : H' a = some o := w.2.1 a o n h
theorem Went.trans {p : Addr} {H H1 H2 : Hp} (a : Went p H H1) (b : Went p H1 H2) : Went p H H2 := ⟨b.1, fun x o n h => b.2.1 x o n (a.2.1 x o n h), fun L h => b.2.2 L (a.2.2 L h)⟩
theorem StAt.uniq {H : Hp} {p L L' : Addr} (h : StAt H p L) (h' : StAt H p L') : L = L' := by
  obtain ⟨_, _, _, _, e, _⟩ := h
  obtain ⟨_, _, _, _, e', _⟩ := h'
  rw [e] at e'
  injection e' with e'
  injection e' with e'
  injection e' with e' _
  exact V.ref.inj e'
theorem went_mk {H H' : Hp} {p L : Addr} (h : StAt H p L) (h' : StAt H' p L) (f : ∀ a o, a ≠ p → H a = some o → H' a = some o) : Went p H H' := ⟨⟨L, h'⟩, f, fun L' q => by rw [← h.uniq q]; exact h'⟩
theorem kb_NoneType_int : kitB "NoneType" "int" = some false := by decide +kernel
theorem kb_NoneType_bool : kitB "NoneType" "bool" = some false := by decide +kernel
theorem kb_NoneType_str : kitB "NoneType" "str" = some false := by decide +kernel
theorem kb_NoneType_dict : kitB "NoneType" "dict" = some false := by decide +kernel
theorem kb_NoneType_list : kitB "NoneType" "list" = some false := by decide +kernel
theorem kb_NoneType_tuple : kitB "NoneType" "tuple" = some false := by decide +kernel
theorem kb_bool_int : kitB "bool" "int" = some true := by decide +kernel
theorem kb_bool_bool : kitB "bool" "bool" = some true := by decide +kernel
theorem kb_bool_str : kitB "bool" "str" = some false := by decide +kernel
theorem kb_bool_dict : kitB "bool" "dict" = some false := by decide +kernel
theorem kb_bool_list : kitB "bool" "list" = some false := by decide +kernel
theorem kb_bool_tuple : kitB "bool" "tuple" = some false := by decide +kernel
theorem kb_int_int : kitB "int" "int" = some true := by decide +kernel
theorem kb_int_bool : kitB "int" "bool" = some false := by decide +kernel
theorem kb_int_str : kitB "int" "str" = some false := by decide +kernel
theorem kb_int_dict : kitB "int" "dict" = some false := by decide +kernel
theorem kb_int_list : kitB "int" "list" = some false := by decide +kernel
theorem kb_int_tuple : kitB "int" "tuple" = some false := by decide +kernel
theorem kb_str_int : kitB "str" "int" = some false := by decide +kernel
theorem kb_str_bool : kitB "str" "bool" = some false := by decide +kernel
theorem kb_str_str : kitB "str" "str" = some true := by decide +kernel
theorem kb_str_dict : kitB "str" "dict" = some false := by decide +kernel
theorem kb_str_list : kitB "str" "list" = some false := by decide +kernel
theorem kb_str_tuple : kitB "str" "tuple" = some false := by decide +kernel
theorem kb_tuple_int : kitB "tuple" "int" = some false := by decide +kernel
theorem kb_tuple_bool : kitB "tuple" "bool" = some false := by decide +kernel
theorem kb_tuple_str : kitB "tuple" "str" = some false := by decide +kernel
theorem kb_tuple_dict : kitB "tuple" "dict" = some false := by decide +kernel
theorem kb_tuple_list : kitB "tuple" "list" = some false := by decide +kernel
theorem kb_tuple_tuple : kitB "tuple" "tuple" = some true := by decide +kernel
theorem kb_list_int : kitB "list" "int" = some false := by decide +kernel
theorem kb_list_bool : kitB "list" "bool" = some false := by decide +kernel
theorem kb_list_str : kitB "list" "str" = some false := by decide +kernel
theorem kb_list_dict : kitB "list" "dict" = some false := by decide +kernel
theorem kb_list_list : kitB "list" "list" = some true := by decide +kernel
theorem kb_list_tuple : kitB "list" "tuple" = some false := by decide +kernel
theorem kb_dict_int : kitB "dict" "int" = some false := by decide +kernel
theorem kb_dict_bool : kitB "dict" "bool" = some false := by decide +kernel
theorem kb_dict_str : kitB "dict" "str" = some false := by decide +kernel
theorem kb_dict_dict : kitB "dict" "dict" = some true := by decide +kernel
theorem kb_dict_list : kitB "dict" "list" = some false := by decide +kernel
theorem kb_dict_tuple : kitB "dict" "tuple" = some false := by decide +kernel
theorem i_isi {K : PySem.W.Frag} {H : Hp} {Q : VK} {x : V} {t n : String} {b : Bool} (ty : TyX K H x (.type t)) (e : kitB t n = some b) (q : Q (.bl b) H) : rIsi K [x, .ty n] H Q := ⟨x, .ty n, .type t, .type n, b, rfl, .ty n, ty, kit_ty e, q⟩
end Me
set_option maxHeartbeats 8000000
namespace Me
open PySem PySem.Spec PyProof.Rows L2
/-! ### int(t, 2) -/
namespace Bn
open PySem.NumText PySem.Calls
def IsB (c : Nat) : Prop := c = 48 ∨ c = 49
def bv (c : Nat) : Nat := c - 48
def binNum (l : List Nat) : Nat := l.foldl (fun a c => a * 2 + bv c) 0
theorem IsB.hex {c : Nat} (h : IsB c) : Hx.IsHex c := Or.inl (by unfold IsB at h; omega)
theorem bv_hv {c : Nat} (h : IsB c) : Hx.hv c = bv c := by
  unfold Hx.hv bv
  rw [if_pos (by unfold IsB at h; omega)]
theorem step_bin {ds : Array Nat} {b : Bool} {c : Nat} (h : IsB c) : PySem.NumText.step 2 (ds, b) c = some (ds.push (bv c), true) := by
  unfold PySem.NumText.step
  rw [if_neg (by rw [beq_iff_eq]; unfold IsB at h; omega), Hx.digit_hex h.hex, bv_hv h]
  refine if_pos ?_
  unfold bv
  unfold IsB at h
  omega
theorem foldl_bin : ∀ (cs : List Nat) (ds : Array Nat), (∀ c ∈ cs, IsB c) → cs.foldlM (PySem.NumText.step 2) (ds, true) = some (cs.foldl (fun acc c => acc.push (bv c)) ds, true)
  | [], _, _ => rfl
  | c :: cs, ds, h => by
    rw [List.foldlM_cons, step_bin (h c (List.mem_cons_self ..))]
    show cs.foldlM (PySem.NumText.step 2) (ds.push (bv c), true) = _
    exact foldl_bin cs (ds.push (bv c)) fun d hd => h d (List.mem_cons_of_mem _ hd)
theorem digits_bin {cs : List Nat} (h : ∀ c ∈ cs, IsB c) (hne : cs ≠ []) : digits? 2 cs = some (cs.foldl (fun acc c => acc.push (bv c)) #[]) := by
  cases cs with
  | nil => exact absurd rfl hne
  | cons c cs =>
    unfold digits?
    rw [List.foldlM_cons, step_bin (h c (List.mem_cons_self ..))]
    show (cs.foldlM (PySem.NumText.step 2) ((#[] : Array Nat).push (bv c), true)).bind _ = _
    rw [foldl_bin cs _ fun d hd => h d (List.mem_cons_of_mem _ hd)]
    rfl
theorem push_bin : ∀ (cs : List Nat) (ds : Array Nat), (cs.foldl (fun acc c => acc.push (bv c)) ds).foldl (fun acc d => acc * 2 + d) 0 = cs.foldl (fun a c => a * 2 + bv c) (ds.foldl (fun acc d => acc * 2 + d) 0)
  | [], _ => rfl
  | c :: cs, ds => by
    rw [List.foldl_cons, push_bin cs (ds.push (bv c)), List.foldl_cons]
    congr 1
    simp
theorem basedB {cs : List Nat} (h : ∀ c ∈ cs, IsB c) : based 2 cs = (2, false, cs) := by
  match cs, h with
  | [], _ => rfl
  | [a], h =>
    rcases h a (List.mem_cons_self ..) with rfl | rfl
    · rfl
    · rfl
  | a :: c :: r, h =>
    have hc := h c (List.mem_cons_of_mem _ (List.mem_cons_self ..))
    rcases h a (List.mem_cons_self ..) with rfl | rfl
    · rcases hc with rfl | rfl
      · rfl
      · rfl
    · rfl
theorem read_bin {cs : List Nat} (h : ∀ c ∈ cs, IsB c) (hne : cs ≠ []) : (int_private% "readNumeral") 0 2 cs = (int_private% "Numeral.value") ((binNum cs : Nat) : Int) := by
  have hr : ∀ c ∈ cs.reverse, IsB c := fun c hc => h c (List.mem_reverse.mp hc)
  refine (readNumeral_eq 0 2 cs).trans ?_
  rw [Hx.dropB fun c hc => (h c hc).hex, Hx.signH fun c hc => (h c hc).hex]
  show judge 0 false (based 2 cs).1 (based 2 cs).2.1 (digits? (based 2 cs).1 (((based 2 cs).2.2.reverse.dropWhile blank).reverse)) = _
  rw [basedB h]
  show judge 0 false 2 false (digits? 2 ((cs.reverse.dropWhile blank).reverse)) = _
  rw [Hx.dropB fun c hc => (hr c hc).hex, List.reverse_reverse, digits_bin h hne]
  show (int_private% "Numeral.value") (((cs.foldl (fun acc c => acc.push (bv c)) (#[] : Array Nat)).foldl (fun acc d => acc * 2 + d) 0 : Nat) : Int) = _
  have z : (#[] : Array Nat).foldl (fun acc d => acc * 2 + d) 0 = 0 := by first | rfl | simp
  rw [push_bin, z] <;> rfl
set_option maxHeartbeats 4000000 in
theorem gives_bin {x : PySem.Str} {u t : Tok} (hl : x.length ≤ 640) (h : ∀ c ∈ x.cps.toList, IsB c) (hne : x.cps.toList ≠ []) :
    Gives (Builtin.«int.__new__» ⟨[.type "int", .str x u, .int 2 t], []⟩) (.int ((binNum x.cps.toList : Nat) : Int)) :=
  .of_wp fun M A E s Q hQ => by
    obtain ⟨hp, g, d, tk, os⟩ := s
    have f1 := F.conv_sub_int
    have f2 := F.madeHere_int
    have f6 : typeOf (.str x u) = pure (.type "str") := rfl
    obtain ⟨e1, e2⟩ := Hx.seen_hex (x := x) fun c hc => (h c hc).hex
    have hs : (numSeenOf x).length ≤ 640 := by
      rw [e2, Array.length_toList]
      exact hl
    have hr : (int_private% "readNumeral") 0 2 (numSeenOf x) = (int_private% "Numeral.value") ((binNum x.cps.toList : Nat) : Int) := by
      rw [e2]
      exact read_bin h hne
    have ha : ((numSeenOf x).length == (numTextOf x).length) = true := by
      rw [e1, e2]
      exact beq_self_eq_true _
    have hk := Hx.Hid.mk (And.intro hs (And.intro hr ha))
    clear hs hr ha e1 e2 hl hne h
    repeat (any_goals (first
      | assumption
      | ((with_reducible show wpAny _ _ ((int_private% "intFromText") _ _ _) _ _ _); refine Hx.wp_textB hk.out.1 hk.out.2.1 hk.out.2.2 ?_)
      | wp_step))
    all_goals first | exact ⟨_, rfl, hQ⟩ | skip
theorem call_bin {prog : Program} {w : World} {A : Around} {E : Value → Shared → Prop} {s : Shared} {Q : Value → Shared → Prop} {x : PySem.Str} {u t : Tok} (hl : x.length ≤ 640) (h : ∀ c ∈ x.cps.toList, IsB c) (hne : x.cps.toList ≠ [])
    (hQ : Q (.int ((binNum x.cps.toList : Nat) : Int) s.toks) { s with toks := s.toks + 1 }) : wpAny (model prog w) A (call (.type "int") [.str x u, .int 2 t]) Q E s :=
  callType_new F.called_int F.newNe_int (Hx.typeCall_int_2 _ _) (Hx.newCall_int_2 _ _) (fun obj => F.initArgs_range_2 obj _ _) F.entry_int_new (gives_bin hl h hne).meets (show (Made.int ((binNum x.cps.toList : Nat) : Int)).post _ s from ⟨rfl, hQ⟩)
end Bn
/-- int(t, 2) -/
def rIntBin : List V → Hp → VK → Prop := fun xs H Q => ∃ x : Str, xs = [.str x, .int 2] ∧ x.cps.toList ≠ [] ∧ x.length ≤ 640 ∧ (∀ c ∈ x.cps.toList, Bn.IsB c) ∧ Q (.int ((Bn.binNum x.cps.toList : Nat) : Int)) H
theorem call_int_bin {X : Cx} : CallR X (.type "int") rIntBin := by
  intro pins s σ H xs us Q I r h
  obtain ⟨x, rfl, hne, hl, hx, q⟩ := h
  obtain ⟨u, w', rfl, r1, r2⟩ := vals2 r
  obtain ⟨t1, rfl⟩ := r1
  obtain ⟨t2, rfl⟩ := r2
  exact Bn.call_bin (x := x) hl hx hne ⟨.int ((Bn.binNum x.cps.toList : Nat) : Int), H, I.tok _, ⟨_, rfl⟩, q⟩
end Me
set_option maxHeartbeats 8000000
namespace Me
open PySem PySem.Spec PyProof.Rows L2
open PySem.Builtin PySem.Builtin.Str PySem.Builtin.Int PySem.Builtin.Float
/-- a number by its bits -/
def binS (a : Nat) : PySem.Str := ⟨((Nat.toDigits 2 a).map Char.toNat).toArray⟩
section
variable {prog : Program} {w : World} {A : Around} {E : Value → Shared → Prop} {s : Shared}
theorem if_pos_wp {α : Type} {M : Model} {c : Prop} [Decidable c] {x y : Sem α} {Q : α → Shared → Prop} (h : c) (k : wpAny M A x Q E s) : wpAny M A (if c then x else y) Q E s := by rw [if_pos h]; exact k
theorem if_neg_wp {α : Type} {M : Model} {c : Prop} [Decidable c] {x y : Sem α} {Q : α → Shared → Prop} (h : ¬ c) (k : wpAny M A y Q E s) : wpAny M A (if c then x else y) Q E s := by rw [if_neg h]; exact k
theorem formatField_b {a : Nat} {t : Tok} {Q : Value → Shared → Prop} (hl : (binS a).length ≤ sizeLine)
    (h : Q (.str (binS a) (s.toks + 1)) { s with toks := s.toks + 1 + 1 }) : wpAny (model prog w) A (formatField (.int (a : Int) t) "b") Q E s := by
  show wpAny _ _ (holding [.int (a : Int) t] (pyFormat (.int (a : Int) t) "b")) Q E s
  refine wpAny_holding ?_
  unfold pyFormat
  refine wpAny_bind (wpAny_mkStr ?_ (by decide))
  refine wpAny_bind (m := callSpecial? (.int (a : Int) t) (Str.ofString "__format__") [.str "b" s.toks]) (wpAny_callSpecial?_slot (name := Str.ofString "__format__") (typeIs_int _ a t) slot_int_format ?_)
  refine wpAny_call (codeAny_call_builtin slot_int_format.plain entry_int_format (slot_int_format.check _ _ _ _ _ _ _ _ (typeIs_int _ a t) (args_int_format _ _) ?_))
  have hne : ((Str.ofString "b").length == 0) = false := by decide
  have hasc : (((Str.ofString "b").cps.toList.drop 1).any (· ≥ 128) || ((Str.ofString "b").cps.getD 0 0 ≥ 128 && !([60, 62, 61, 94] : List Nat).contains ((Str.ofString "b").cps.getD 1 0))) = false := by decide
  unfold Builtin.«int.__format__»
  simp only [selfAndOne, noKeywords, Int.intOfSelf, asInt?, asStr?, List.isEmpty_nil, if_true, pure_bind, bind_pure, bind_assoc, hne, hasc, Bool.false_eq_true, if_false,
    show (Value.str (Str.ofString "b") s.toks == Value.none) = false from rfl]
  refine wpAny_bind (wpAny_typeNameOf (T := "str") (typeIs_str _ _ _) (by decide) fun _ => ?_)
  refine wpAny_bind (wpAny_typeNameOfCut_int ?_)
  obtain ⟨f, hp, hty, hpr, hz, hal, hw, hgr, hsg, hag, hfi⟩ : ∃ f : FormatSpec, parseFormatSpec (Str.ofString "b").cps.toList "int" 62 = .ok f ∧ f.type.getD (if ((Str.ofString "b").cps.back? == some 0) = true then 0 else 100) = 98 ∧ f.precision = none ∧ f.noNeg0 = false ∧ f.alt = false ∧ f.width = none ∧ f.grouping = none ∧ f.sign = none ∧ f.align = 62 ∧ f.fill = 32 :=
    ⟨{ align := 62, type := some 98 }, by kernel_rfl, rfl, rfl, rfl, rfl, rfl, rfl, rfl, rfl, rfl⟩
  simp only [hp, hty]
  rw [if_pos (by decide)]
  show wpAny _ _ (if _ then _ else _) _ _ _
  rw [if_neg (by simp [hpr])]
  show wpAny _ _ (if _ then _ else _) _ _ _
  rw [if_neg (by simp [hz])]
  show wpAny _ _ (if f.width.getD 0 > 100000 then _ else _) _ _ _
  rw [if_neg (by simp [hw])]
  show wpAny _ _ (retStr _) _ _ _
  unfold retStr
  have key : ∀ y : PySem.Str, y = binS a → wpAny (model prog w) A.in1 (do let v ← mkStr y; pure (.done (.ret v))) (fun fin s' =>
      match fin with
      | Fin.done f =>
        match Except.ok f with
        | Except.ok (Flow.ret v) =>
          wpAny (model prog w) A
            (do
              let __do_lift ← isInstance v (Value.type "str")
              if __do_lift = true then pure v
                else do
                  rule "format.no-str"
                  let __do_lift ← typeNameOf v
                  raiseErrorMade "TypeError" (toString "__format__ must return a str, not " ++ toString __do_lift))
            Q E s'
        | Except.ok a => False
        | Except.error e => E e s'
      | Fin.again c' => c'.quiet = true ∧ codeAny (model prog w) A c' (fun r s' =>
              match r with
              | Except.ok (Flow.ret v) =>
                wpAny (model prog w) A
                  (do
                    let __do_lift ← isInstance v (Value.type "str")
                    if __do_lift = true then pure v
                      else do
                        rule "format.no-str"
                        let __do_lift ← typeNameOf v
                        raiseErrorMade "TypeError"
                            (toString "__format__ must return a str, not " ++ toString __do_lift))
                  Q E s'
              | Except.ok a => False
              | Except.error e => E e s')
            s')
    (fun e s' => E e s') { heap := s.heap, gens := s.gens, drawn := s.drawn, toks := s.toks + 1, os := s.os } := by
    rintro y rfl
    refine wpAny_bind (wpAny_mkStr (wpAny_pure ?_) hl)
    exact wpAny_bind (wpAny_isInstance (typeIs_str _ _ _) isSubtype_str_str (wpAny_pure h))
  refine key _ ?_
  have hn : decide ((a : Int) < 0) = false := decide_eq_false (by omega)
  obtain ⟨L, hL⟩ : ∃ L, (Nat.toDigits 2 a).map Char.toNat = L := ⟨_, rfl⟩
  have eL : ((Nat.toDigits 2 (a : Int).natAbs).map fun c => (if ((98 : Nat) == 88) = true then c.toUpper else c).toNat) = L := by rw [← hL]; rfl
  have hd : L ≠ [] := by
    have := tDigits_len_ge 2 a
    intro e
    rw [← hL] at e
    have e2 := congrArg List.length e
    rw [List.length_map] at e2
    simp at e2
  have eb : binS a = ⟨L.toArray⟩ := by unfold binS; rw [hL]
  rw [hn, hal, if_neg Bool.false_ne_true, eL, eb]
  clear eL eb hL h hl hn hp hty
  obtain ⟨c, r, rfl⟩ := List.exists_cons_of_ne_nil hd
  cases f
  dsimp only at hpr hz hw hgr hsg hag hfi
  subst hpr hz hw hgr hsg hag hfi
  have e1 : List.replicate ((0 : Int).toNat - (c :: r).length) 48 ++ c :: r = c :: r := by
    rw [show (0 : Int).toNat - (c :: r).length = 0 by simp]; rfl
  have e0 : ((-1 : Int) - (((([] : List Nat).length : Int) + (([] : List Nat).length : Int)) + (([] : List Nat).length : Int)) - ((c :: r).length : Int)).toNat = 0 := by
    simp only [List.length_nil, List.length_cons]
    omega
  show (⟨(List.replicate (((-1 : Int) - (((([] : List Nat).length : Int) + (([] : List Nat).length : Int)) + (([] : List Nat).length : Int)) - ((List.replicate ((0 : Int).toNat - (c :: r).length) 48 ++ c :: r).length : Int)).toNat) 32 ++ [] ++ [] ++ List.replicate 0 32 ++ (List.replicate ((0 : Int).toNat - (c :: r).length) 48 ++ c :: r) ++ [] ++ List.replicate 0 32).toArray⟩ : PySem.Str) = _
  rw [e1, e0]
  simp
/-- f'{n:b}' -/
def tFmtB (te : TE) : TE := fun σ H Q => te σ H fun x H1 => ∃ n : Nat, x = .int (n : Int) ∧ (binS n).length ≤ sizeLine ∧ Q (.str (binS n)) H1
theorem pe_fmtB {X : Cx} {e : Expr} {te : TE} {pos p1 p2 : Pos} {k : Nat} (he : PE X e te) : PE X (.FormattedValue e (-1) (some (.JoinedStr [.Constant (.str "b") k p1] p2)) pos) (tFmtB te) := by
  refine ⟨fun pins s σ H Q I h => ?_⟩
  refine wpAny_FormattedValue_spec (thn (he.run pins s σ H _ I h) fun v s1 hv => ?_)
  obtain ⟨x, H1, I1, r1, n, rfl, hl, q⟩ := hv
  obtain ⟨t, rfl⟩ := r1
  refine wpAny_JoinedStr_one ?_
  refine thn ((pe_str (X := X) (x := "b")).run pins s1 σ H1 (fun v' H2 => v' = .str "b" ∧ Q (.str (binS n)) H2) I1 ⟨rfl, q⟩) fun r s2 hr => ?_
  obtain ⟨x2, H2, I2, r2, rfl, q2⟩ := hr
  obtain ⟨t2, rfl⟩ := r2
  refine ⟨_, _, rfl, ?_⟩
  exact formatField_b hl ⟨.str (binS n), H2, I2.tok _, ⟨_, rfl⟩, q2⟩
end
end Me
set_option maxHeartbeats 8000000
namespace Me
open PySem PySem.Spec PyProof.Rows L2
/-! ### d.setdefault(t, x), d empty, t a tuple of ints, texts and None -/
/-- an object of which nothing is known -/
def anyO : HO := .ext fun _ => True
theorem anyO_ok {P : Program} {w : World} {H : Hp} {h : Heap} {a : Addr} (e : ∃ o, h.get? a = some o) : ObjOk P w H h a anyO := ⟨trivial, e, fun _ _ _ _ => trivial⟩
def flatK : V → Prop
  | .non => True
  | .int _ => True
  | .str _ => True
  | _ => False
def nkOf : V → NestedKey
  | .int i => .num i
  | .str x => .text x
  | _ => .none
theorem nk_is {h : Heap} {x : V} {u : Value} (f : flatK x) (r : RelV x u) : NestedIs h (nkOf x) u := by
  cases x with
  | non =>
    obtain rfl : u = .none := r
    exact .none
  | int i =>
    obtain ⟨t, rfl⟩ := r
    exact .int _ _
  | str z =>
    obtain ⟨t, rfl⟩ := r
    exact .text _ _
  | _ => exact (show False from f).elim
theorem nk_all {h : Heap} : ∀ {xs : List V} {us : List Value}, (∀ x ∈ xs, flatK x) → Vals xs us → NestedAll h (xs.map nkOf) us
  | [], _, _, .nil => .nil
  | x :: xs, _, f, .cons r rs => .cons (nk_is (f x List.mem_cons_self) r) (nk_all (fun y hy => f y (List.mem_cons_of_mem _ hy)) rs)
theorem nk_depth : ∀ xs : List V, NestedKey.depthAll (xs.map nkOf) = 0
  | [] => rfl
  | x :: xs => by
    show max (NestedKey.depth (nkOf x)) (NestedKey.depthAll (xs.map nkOf)) = 0
    rw [nk_depth xs]
    cases x <;> rfl
theorem keyed_of {P : Program} {w : World} {h : Heap} {d : Addr} (dd : Heap.DictOf (mixKind P w) h d []) : h.DictKeyed (nestedKind P w) d [] := by
  obtain ⟨o, es, ep, h1, h2, h3, _, h5, _⟩ := dd
  have e : es.toList = [] := by
    generalize es.toList = l at h5
    cases h5
    rfl
  exact ⟨[], ⟨o, es, ep, h1, h2, h3, e, (fun x hx => by cases hx), List.nodup_nil⟩, rfl⟩
def tDSetT (td ty tx : TE) : TE := fun σ H Q => td σ H fun x H1 => ∃ a, x = .ref a ∧ H1 a = some (.dK []) ∧ ty σ H1 fun y H2 => tx σ H2 fun z H3 => ∃ (b : Addr) (xs : List V), y = .ref b ∧ H3 a = some (.dK []) ∧ H3 b = some (.tup xs) ∧ (∀ v ∈ xs, flatK v) ∧ Q z (upd H3 a anyO)
section
variable {X : Cx} {o e f : Expr} {td ty tx : TE} {apos cpos : Pos}
theorem pe_dsetT (hu : X.A.units + 32 < cLine) (ho : PE X o td) (he : PE X e ty) (hf : PE X f tx) (m : M2 X o "setdefault" apos e f cpos) : PE X (.Call (.Attribute o "setdefault" apos) [e, f] [] cpos) (tDSetT td ty tx) := by
  refine ⟨fun pins s σ H Q I h => ?_⟩
  refine wpAny_Call_method m.base m.few m.line PySem.F.plainAttrs_dict PySem.F.slot_dict_setdefault PySem.F.type_dict_setdefault (thn (ho.run pins s σ H _ I h) fun u s1 ⟨x, H1, I1, rx, a, ex, ea1, q1⟩ => ?_)
  subst ex
  obtain rfl : u = Value.ref a := rx
  obtain ⟨t1, t2, _⟩ := isD_at I1 (.inl ⟨_, Rd.of ea1⟩)
  refine ⟨t1, t2, ?_⟩
  rw [m.trees]
  refine Calls.callWith_builtin rfl (Calls.evalArgs_plain (Calls.spliced_cons (thn (he.run pins s1 σ H1 _ I1 q1) fun iv s2 ⟨y, H2, I2, ry, q2⟩ =>
    Calls.spliced_cons (thn (hf.run pins s2 σ H2 _ I2 q2) fun fv s3 ⟨z, H3, I3, rz, b, xs, ey, ea, eb, fl, q3⟩ => Calls.spliced_nil ?_))))
  subst ey
  obtain rfl : iv = Value.ref b := ry
  obtain ⟨_, hd, vs, rel, dd⟩ := dk_of I3.hok ea
  have ev : vs = [] := by cases rel; rfl
  subst ev
  obtain ⟨_, its, rv, ht⟩ := I3.hok b _ eb
  obtain ⟨ot, ht1, ht2, n, ht3⟩ := ht
  show wpAny _ _ (call (.builtin "dict.setdefault") [.ref a, .ref b, fv]) _ _ _
  refine setdefault_keyed (knd := nestedKind X.prog X.w) (kvs := []) (k := .tup (xs.map nkOf)) ?_ ⟨NestedIs.tup ht1 ht2 ht3 (by simpa using nk_all fl rv), ?_⟩ hd (keyed_of dd) (fun v hv => by cases hv) (fun _ h' dk sb => ?_)
  · show X.A.in1.units + 8 < cLine
    rw [Around.in1_units]
    omega
  · show NestedKey.depthAll (xs.map nkOf) + 1 ≤ 8
    rw [nk_depth]
    decide
  · refine ⟨z, _, d_write I3 (by rw [ea]; exact True.intro) sb ?_ (anyO_ok ?_), rz, q3⟩
    all_goals
      obtain ⟨ys, ⟨o, _, _, h1, _⟩, _⟩ := dk
      exact ⟨o, h1⟩
end
end Me
set_option maxHeartbeats 8000000
namespace Me
open PySem PySem.Spec PyProof.Rows L2
/-! ### sorted(d, key=lambda one: len(d[one])), d of one entry -/
def lamP (ap : Pos) : Arguments := { posonlyargs := [], args := [{ arg := "one", annotation := none, pos := ap }], vararg := none, kwonlyargs := [], kw_defaults := [], kwarg := none, defaults := [] }
def lamB (p1 p2 p3 p4 p5 : Pos) : Expr := .Call (.Name "len" p1) [.Subscript (.Name "reached" p2) (.Name "one" p3) p4] [] p5
def lamC : Scope := { kind := .function, names := [(PySem.Str.ofString "one", .local), (PySem.Str.ofString "reached", .free), (PySem.Str.ofString "len", .globalImplicit)], isGenerator := false, isCoroutine := false, more := [] }
theorem key_call {prog : Program} {w : World} {A : Around} {E : Value → Shared → Prop} {s : Shared} {mg mb : Str → Option Value} {q : Str} {ap p1 p2 p3 p4 p5 : Pos} {cl : List (Str × Addr)} {pm ctv : Value} {f c' cc d l : Addr} {vs : List (Key × Value)} {z : Str} {t : Tok}
    (G : s.heap.Ns mainGlobals mg) (hm : mg "len" = none) (B : s.heap.Ns builtinsNs mb) (hv : mb "len" = some (.builtin "len")) (lim : s.heap.NoLimit) (room : A.depth < recursionLimit)
    (hf : s.heap.get? f = some (PySem.W.kla_obj "<lambda>" q (lamP ap) (lamB p1 p2 p3 p4 p5) lamC cl pm c' ctv)) (hc : ∃ (oc : Obj) (vs : Array Value) (t : Tok), s.heap.get? c' = some oc ∧ oc.data = .fields vs ∧ vs[1]? = some (.str q t))
    (hcl : cl.lookup (PySem.Str.ofString "reached") = some cc) (hcc : s.heap.IsCell cc (some (.ref d))) (hd : s.heap.DictOf (mixKind prog w) d vs) (hval : valueAt vs (.inr z) = some (.ref l)) (hl : s.heap.IsList l #[]) :
    wpAny (model prog w) A (call (.ref f) [.str z t]) (PySem.W.KeyPure (.int 0) s) E s := by
  obtain ⟨oc, vs', tq, hoc, hdc, hvc⟩ := hc
  refine wpAny_call (PySem.W.kla_callFunE room hf rfl rfl rfl rfl ⟨c', oc, vs', tq, rfl, hoc, hdc, hvc⟩ ?_)
  have hb : bindArgs (PySem.W.kla_fn "<lambda>" q (lamP ap) (lamB p1 p2 p3 p4 p5) lamC cl pm (.ref c') ctv) ⟨[.str z t], []⟩ = pure [((PySem.Str.ofString "one", Value.str z t) : PySem.Str × Value)] := by rfl
  show wpAny _ _ (bindArgs (PySem.W.kla_fn "<lambda>" q (lamP ap) (lamB p1 p2 p3 p4 p5) lamC cl pm (.ref c') ctv) ⟨[.str z t], []⟩) _ _ _
  rw [hb]
  have k1 : ∀ x ∈ lamC.names, x.2 ≠ .cell := by decide +kernel
  have k2 : lamC.names.lookup (PySem.Str.ofString "one") = some .local := by decide +kernel
  refine wpAny_pure (wpAny_newFunctionEnv k1 (fun x hx => by rw [List.mem_singleton.mp hx]; exact k2) (fun h₁ hns hsb => ⟨lim.fresh _ hsb, ?_⟩) rfl)
  refine PySem.W.kla_codeExpr ?_
  have kp : ∀ b o, s.heap.get? b = some o → h₁.get? b = some o := fun b o e => hsb.extBut b o (Nat.ne_of_lt (Heap.lt_size e)) (Heap.get?_push_of_some _ e)
  have nO : lamC.names.lookup ("one" : Str) = some .local := by decide +kernel
  have nR : lamC.names.lookup ("reached" : Str) = some .free := by decide +kernel
  have nL : lamC.names.lookup ("len" : Str) = some .globalImplicit := by decide +kernel
  have hcc1 : h₁.IsCell cc (some (.ref d)) := let ⟨o, ho, hdd⟩ := hcc; ⟨o, kp _ _ ho, hdd⟩
  have hd1 : h₁.DictOf (mixKind prog w) d vs := let ⟨o, es, ep, a1, r⟩ := hd; ⟨o, es, ep, kp _ _ a1, r⟩
  have hl1 : h₁.IsList l #[] := let ⟨o, a1, r⟩ := hl; ⟨o, kp _ _ a1, r⟩
  refine wpAny_Call_Name_kw (Calls.Name_function_global rfl nL (Calls.loadGlobal_builtin (mg := mg) (mb := mb) (G.keeps kp) hm (B.keeps kp) hv ?_))
  refine PyProof.Rows.callWith_builtin1 ?_
  show wpAny _ _ (spliced ((false, eval (.Subscript (.Name "reached" p2) (.Name "one" p3) p4) _) :: _)) _ _ _
  refine Calls.spliced_cons (subD_of PySem.F.slot_dict_getitem.lookup (fun _ _ => rfl) ?_)
  refine wpAny_Name (wpAny_loadName_free rfl nR hcl hcc1 ?_) (by decide)
  refine wpAny_Name (wpAny_loadName_local rfl nO hns (by rfl) ?_) (by decide)
  refine ⟨hd1.typeIs, ?_⟩
  refine wpAny_getItem_of (kV_is (k := .inr z) ⟨t, rfl⟩) hd1.mapOf hval ?_
  refine Calls.spliced_nil ?_
  refine Calls.call_len_list hl1 (by decide) ?_
  exact ⟨_, _, rfl, kp, .int _ _⟩
end Me
namespace Me
open PySem PySem.Spec PyProof.Rows L2
theorem sorted_one {prog : Program} {w : World} {A : Around} {E : Value → Shared → Prop} {s : Shared} {f : Value} {fa d : Addr} {z : Str} {v : Value} {Q : Value → Shared → Prop} (ef : f = .ref fa) (lo : (d == sysModules) = false) (hh : A.handled = none) (hd : s.heap.DictOf (mixKind prog w) d [(.inr z, v)]) (hu : A.units + 2 < cLine)
    (turn : ∀ (t : Tok) (h : Heap) (tk : Nat), (∀ b o, s.heap.get? b = some o → h.get? b = some o) → wpAny (model prog w) A.in1.in1 (call f [.str z t]) (PySem.W.KeyPure (.int 0) { s with heap := h, toks := tk }) (fun _ _ => False) { s with heap := h, toks := tk })
    (h : ∀ (h0 : Heap) (t : Tok) (h' : Heap) (tk : Nat) (c : Nat), (∀ b o, s.heap.get? b = some o → h0.get? b = some o) → (∀ b o, h0.get? b = some o → h'.get? b = some o) → h'.get? h0.objs.size = some (seqObj "list" #[.str z t] c) → Q (.ref h0.objs.size) { s with heap := h', toks := tk }) :
    wpAny (model prog w) A (call (.builtin "sorted") [.ref d] [(Str.ofString "key", f)]) Q E s := by
  subst ef
  obtain ⟨ep, hat⟩ := hd.dictAt
  refine call_function_entry_kw PyProof.Rows.kind_sorted PyProof.Rows.plain_sorted PyProof.Rows.entry_sorted (by rfl) ?_
  unfold Builtin.«sorted»
  refine wpAny_bind (m := checkCount "sorted" 1 1 _) (wpAny_pure ?_)
  refine wpAny_bind (PySem.W.kdu_collect (A := A.in1) (PySem.W.kdl_dict (knd := mixKind prog w) (kvs := [(.inr z, v)]) (ep := ep) lo) hh hat (by show 1 ≤ sizeLine; decide) fun h' tk acc hk hacc => ?_)
  obtain ⟨t, ha⟩ : ∃ t, acc.toList = [.str z t] := by
    have h1 : acc.size = 1 := hacc.1
    have h2 : acc.toList.length = 1 := by rw [Array.length_toList]; exact h1
    match e : acc.toList, h2 with
    | [u], _ =>
      obtain ⟨k, x, e1, e2⟩ := hacc.2 0 u (by rw [← Array.getElem?_toList, e]; rfl)
      have e1 : (some ((.inr z : Key), v)) = some (k, x) := e1
      cases e1
      obtain ⟨t, ev⟩ := Value.isStrOf_shape (x := z) (v := u) e2
      exact ⟨t, by rw [ev]⟩
  rw [ha]
  refine wpAny_bind (wpAny_newList ?_ (by show 1 ≤ sizeLine; decide))
  have hoL : (h'.push (seqObj "list" [Value.str z t].toArray 0)).get? h'.objs.size = some (seqObj "list" [Value.str z t].toArray 0) := Heap.get?_push_size _ rfl
  show wpAny _ _ _ _ _ { s with heap := h'.push (seqObj "list" [Value.str z t].toArray 0), toks := tk }
  refine wpAny_bind (wpAny_holding (wpAny_call_entry_kw slot_list_sort ⟨_, hoL, rfl⟩ entry_list_sort ?body (by rfl)))
  case body =>
    show wpAny (model prog w) A.in1.in1 (Builtin.«list.sort» ⟨[.ref h'.objs.size], [(Str.ofString "key", .ref fa)]⟩) _ _ _
    rw [ksk_t1]
    have old : ∀ {g : Heap}, PySem.W.KeepsBut h'.objs.size (h'.push (seqObj "list" [Value.str z t].toArray 0)) g → ∀ b o, s.heap.get? b = some o → g.get? b = some o := fun {g} kb b o e =>
      kb b o (Nat.ne_of_lt (Heap.lt_size (hk _ _ e))) (Heap.get?_push_of_some _ (hk _ _ e))
    refine PySem.W.keyH_tree (s := { s with heap := h'.push (seqObj "list" [Value.str z t].toArray 0), toks := tk }) (vs := [Value.str z t]) (kz := [.int 0]) (b := false) hoL rfl (by show 1 ≤ sizeLine; decide) ?_ ?_ (fun k hk => ?_) (fun i x k hx hkz g tk2 kb => ?_) (fun g tk2 out c kb hD ko => ?_)
    · intro a ha b hb
      rw [List.mem_singleton.mp ha, List.mem_singleton.mp hb]
      rfl
    · refine .inr fun k hk => ?_
      rw [List.mem_singleton.mp hk]
      exact ⟨(by intro z; cases z), fun xs z => by cases z⟩
    · rw [List.mem_singleton.mp hk]
      show A.in1.in1.units + 0 < cLine
      rw [Around.in1_units, Around.in1_units]
      omega
    · cases i with
      | zero =>
        cases hx
        cases hkz
        exact turn t g tk2 (old kb)
      | succ n => simp at hx
    · have ko2 := PySem.W.keyedOut_each (R := fun v (_ : Unit) => v = Value.str z t) (bs := [()]) (rev := false) (fun _ => PyData.int 0) ko (.cons rfl .nil)
      have eo : out = [Value.str z t] := by
        have l1 := ko2.length
        rw [List.length_mergeSort] at l1
        match out, l1 with
        | [u], _ =>
          have e : ([()] : List Unit).mergeSort (PySem.W.dataLe false fun _ => PyData.int 0) = [()] := by simp
          rw [e] at ko2
          cases ko2 with
          | cons r _ => rw [r]
      subst eo
      refine ⟨_, rfl, wpAny_pure ⟨_, rfl, ?_⟩⟩
      exact h h' t g tk2 c hk (fun b o e => kb b o (Nat.ne_of_lt (Heap.lt_size e)) (Heap.get?_push_of_some _ e)) hD
end Me
set_option maxHeartbeats 8000000
namespace Me
open PySem PySem.Spec PyProof.Rows L2
def tSortK (T : List (Addr × Str)) (i : Nat) : TE := fun σ H Q => LamX.Tabs T H ∧ ∃ (d l : Addr) (z : Str), σ[i]? = some (some (.ref d)) ∧ H d = some (.dK [(.inr z, .ref l)]) ∧ H l = some (.lst []) ∧ ∀ H1, LamX.ExtN H H1 → LamX.Tabs T H1 → ∀ p, H1 p = none → Q (.ref p) (upd H1 p (.lst [.str z]))
theorem pe_sortK {X : Cx} {T : List (Addr × Str)} {c P : Addr} {i k : Nat} {ap p1 p2 p3 p4 p5 q1 q2 q3 q4 q5 : Pos} (TB : LamX.TabB X.base X.mg c P) (hcode : X.env.code = .ref c) (hmT : (P, X.env.qual ++ "<lambda>") ∈ T) (hu : ∀ p ∈ T, p.1 = P → p.2 = X.env.qual ++ "<lambda>")
    (hr : Room (k + 1) X.A) (hcalm : X.calm = true) (hg : Gl X "sorted") (hm : X.mg "sorted" = none) (hlen : X.mg "len" = none) (hN : X.N[i]? = some (PySem.Str.ofString "reached")) (hcell : X.env.scope.names.lookup (PySem.Str.ofString "reached") = some .cell) :
    PE X (.Call (.Name "sorted" q1) [.Name "reached" q2] [⟨some "key", .Lambda (lamP ap) (lamB p1 p2 p3 p4 p5) lamC q3, q4⟩] q5) (tSortK T i) := by
  refine ⟨fun pins s σ H Q I h => ?_⟩
  obtain ⟨hT, d, l, z, hi, hd, hl, q⟩ := h
  refine wpAny_Call_Name_kw (ld_blt I hg hm (u := .builtin "sorted") (by decide +kernel) ?_)
  refine PyProof.Rows.callWith_kw ?_
  refine thn ((pa_cons (pe_var (pos := q2) (i := i) hN (.inr (.inl hcell))) pa_nil).run q5 pins s σ H (fun vs H1 => vs = [.ref d] ∧ H1 = H) I ⟨.ref d, hi, rfl, rfl⟩) fun us s1 ⟨vs, H1, I1, r1, e1, e2⟩ => ?_
  subst e1
  rw [e2] at I1
  obtain ⟨u, rfl, ru⟩ := vals1 r1
  obtain rfl : u = Value.ref d := ru
  show wpAny _ _ (evalAll ((do let v ← eval (.Lambda (lamP ap) (lamB p1 p2 p3 p4 p5) lamC q3) X.env; standAt q5; pure v) :: [])) _ _ _
  have hcellX : ∀ y ∈ lamC.names, y.2 = .free → ∃ c, X.env.cells.lookup y.1 = some c := fun y hy e => by
    have : y.1 = PySem.Str.ofString "reached" := by
      rcases List.mem_cons.mp hy with rfl | hy
      · cases e
      · rcases List.mem_cons.mp hy with rfl | hy
        · rfl
        · rw [List.mem_singleton.mp hy] at e; cases e
    rw [this]
    exact I.ok.has _ (.inl hcell)
  refine wpAny_evalAll_cons (wpAny_bind (LamX.lam_make2 I1 TB hcode hmT hu hT (by rfl) hcellX fun f c' pm ctv H2 s2 I2 eN T2 hf hfn hfr hco => wpAny_bind (wpAny_standAt (wpAny_pure (wpAny_evalAll_nil ?_)))))
  have hd2 := eN _ _ hd (fun _ z => by cases z)
  have hl2 := eN _ _ hl (fun _ z => by cases z)
  obtain ⟨_, lo, vs, rel, dd⟩ := dk_of I2.hok hd2
  obtain ⟨v, ev, rv⟩ : ∃ v, vs = [(.inr z, v)] ∧ RelV (.ref l) v := by
    cases rel with
    | cons r0 rr =>
      cases rr
      rename_i b
      obtain ⟨b1, b2⟩ := b
      obtain ⟨r1, r2⟩ := r0
      exact ⟨b2, by rw [← show Sum.inr z = b1 from r1], r2⟩
  subst ev
  obtain rfl : v = Value.ref l := rv
  obtain ⟨its, rl, pl, _⟩ := I2.list (SqL.of hl2)
  have e0 : its = [] := by cases rl; rfl
  subst e0
  -- the cell
  obtain ⟨m, hn, hloc⟩ := I2.loc
  obtain ⟨u2, ru2, lk⟩ := hloc i _ _ hN hi (.inr (.inl hcell))
  obtain rfl : u2 = Value.ref d := ru2
  obtain ⟨cc, hcc, icc⟩ : ∃ cc, X.env.cells.lookup (PySem.Str.ofString "reached") = some cc ∧ s2.heap.IsCell cc (some (.ref d)) := by
    rcases lk with ⟨k', _⟩ | ⟨_, c3, e', z'⟩
    · have k' : X.env.scope.names.lookup (PySem.Str.ofString "reached") = some .local := k'
      rw [hcell] at k'
      cases k'
    · exact ⟨c3, e', z'⟩
  have hclo : (cloFrom X.env.cells lamC.names []).lookup (PySem.Str.ofString "reached") = some cc := by
    obtain ⟨c2, h2⟩ := mem_lookup (cloFrom_has (cells := X.env.cells) (acc := []) (show (PySem.Str.ofString "reached", NameKind.free) ∈ lamC.names from List.mem_cons_of_mem _ List.mem_cons_self))
    rcases cloFrom_mem (PySem.mem_of_lookup h2) with hm2 | ⟨h3, h4⟩
    · cases hm2
    · rw [h2, h4, hcc]; rfl
  obtain ⟨mb, hb1, hb2⟩ := I2.mod.blt
  have KX := I2.bk
  refine sorted_one rfl lo (I2.ok.hd hcalm) dd (by have := hr.units; omega) (fun t h tk kp => ?_) (fun h0 t h' tk c2 k1 k2 hp => ?_)
  · refine key_call (mg := X.mg) (mb := mb) (s := { s2 with heap := h, toks := tk }) (cc := cc) (d := d) (l := l) (vs := [(.inr z, .ref l)]) ((I2.mod.glob.keeps I2.bk).keeps kp) hlen ((hb1.keeps I2.bk).keeps kp) ((hb2 _ (by decide)).trans (by decide +kernel)) (I2.nolimit.keeps kp) ?_ (kp _ _ hf) ?_ hclo ?_ ?_ ?_ ?_
    · have := hr.dp
      rw [Around.in1_depth, Around.in1_depth]
      omega
    · obtain ⟨⟨oc, vs, t, hoc, hdc, hvc⟩, _, _⟩ := I2.hok c' _ hco
      exact ⟨oc, vs, t, kp _ _ hoc, hdc, hvc⟩
    · obtain ⟨o, ho, hdd⟩ := icc
      exact ⟨o, kp _ _ ho, hdd⟩
    · obtain ⟨o, es, ep, a1, r⟩ := dd
      exact ⟨o, es, ep, kp _ _ a1, r⟩
    · show ((List.find? (fun kv : Key × Value => decide (kv.1 = (.inr z : Key))) [((.inr z : Key), Value.ref l)]).map (·.2)) = some (.ref l)
      simp
    · obtain ⟨o, a1, r⟩ := pl.isList
      exact ⟨o, kp _ _ a1, r⟩
  · have I3 : Inv X pins σ H2 { s2 with heap := h0, toks := tk } := I2.kept k1
    refine ⟨.ref h0.objs.size, upd H2 h0.objs.size (.lst [.str z]), I3.laid (t' := tk) k2 (Nat.le_refl _) (show ObjOk X.prog X.w _ _ _ (.lst [.str z]) from ⟨by show 1 ≤ sizeLine; decide, [.str z t], c2, .cons ⟨t, rfl⟩ .nil, hp⟩), rfl, ?_⟩
    exact q H2 eN T2 _ (I3.hok.fresh (Nat.le_refl _))
end Me
set_option maxHeartbeats 8000000
namespace Me
open PySem PySem.Spec PyProof.Rows L2
/-! ### for i, c in enumerate(t), t a text -/
def ItsE (x : Str) : It :=
  ⟨fun i _ => i < x.cps.size, fun i H v H' => ∃ T c, x.cps[i]? = some c ∧ v = .ref T ∧ H T = none ∧ H' = upd H T (.tup [.int (i : Nat), .str ⟨#[c]⟩]), fun i _ => i = x.cps.size⟩
theorem turn_enumS {P : Program} {w : World} {K : PySem.W.Frag} {elts : List Expr} {kk : Nat} {tpos : Pos} (x : Str) (t : Tok) (e it : Addr) :
    Turn P w K (.Tuple elts kk tpos) (ItsE x) [e, it] e (fun i h => (∃ old, IsEnum h e it ((i : Nat) : Int) old) ∧ h.IsStrIter it (strIterType x) x t i ∧ e ≠ it) where
  mem := by simp
  obj := fun i h st b hb => by
    obtain ⟨⟨old, he⟩, ⟨o, ho, hc, hd⟩, _⟩ := st
    have e' : b = e ∨ b = it := by simpa using hb
    rcases e' with z | z
    · rw [z]; exact ⟨_, he, fun v q => nomatch q⟩
    · rw [z]; exact ⟨o, ho, fun v q => by rw [hd] at q; cases q⟩
  keep := fun i h h' st k => let ⟨⟨old, he⟩, ⟨o, ho, r⟩, hne⟩ := st; ⟨⟨old, k e (by simp) _ he⟩, ⟨o, k it (by simp) o ho, r⟩, hne⟩
  item := by
    intro X hP hw hK hc i pins s σ H E I hf st hg
    subst hP hw hK
    obtain ⟨⟨old, he⟩, hit, hne⟩ := st
    have hel : e < s.heap.objs.size := Heap.lt_size he
    have hil : it < s.heap.objs.size := by obtain ⟨_, q, _⟩ := hit; exact Heap.lt_size q
    have hef : e ∉ [it] := fun z => hne (List.mem_singleton.mp z)
    refine wpAny_pyNext_enum_itemD (Draws.text (A := X.A.in1) (I.ok.hd hc) it x t) he hit hg hne hef fun v h' tk hv ho hit' hT hsz hk => ?_
    obtain ⟨c, u, hcx, rfl⟩ := hv
    refine ⟨_, rfl, wpAny_letOwnedTupleGo_enum (s := { s with heap := h', toks := tk + 1 }) ho fun h'' he' sb => ?_⟩
    have hT2 : h''.get? s.heap.objs.size = some { cls := .type "tuple", data := .seq #[.int i tk, .str ⟨#[c]⟩ u] } := (sb.2 _ (Nat.ne_of_gt hel)).trans hT
    have new : ObjOk X.prog X.w (upd H s.heap.objs.size (.tup [.int (i : Nat), .str ⟨#[c]⟩])) h'' s.heap.objs.size (.tup [.int (i : Nat), .str ⟨#[c]⟩]) :=
      ⟨by show 2 ≤ sizeLine; decide, [.int i tk, .str ⟨#[c]⟩ u], .cons ⟨_, rfl⟩ (.cons ⟨_, rfl⟩ .nil), ⟨_, hT2, rfl, _, rfl⟩⟩
    have I1 : Inv X pins σ (upd H s.heap.objs.size (.tup [.int (i : Nat), .str ⟨#[c]⟩])) { s with heap := h'', toks := tk + 1 } :=
      I.turnedNew (ch := [e, it]) (fun b ob hb q => (sb.2 b (fun z => hb (by simp [z]))).trans (hk b ob (fun z => hb (by simp [z])) (fun z => hb (by simp [z])) q)) hf (Nat.le_refl _) new
    refine ⟨.ref s.heap.objs.size, _, I1, rfl, ⟨_, c, hcx, rfl, I.hok.fresh (Nat.le_refl _), rfl⟩, ⟨⟨.str ⟨#[c]⟩ u, ?_⟩, ?_, hne⟩, fun b hb => ?_⟩
    · have e1 : ((i + 1 : Nat) : Int) = (i : Int) + 1 := by omega
      rw [e1]; exact he'
    · obtain ⟨o, ho2, r⟩ := hit'
      exact ⟨o, (sb.2 it (Ne.symm hne)).trans ho2, r⟩
    · have hb' : b < s.heap.objs.size := by
        have e' : b = e ∨ b = it := by simpa using hb
        rcases e' with z | z
        · rw [z]; exact hel
        · rw [z]; exact hil
      rw [upd_ne (Nat.ne_of_lt hb')]
      exact (hf b hb).1
  done := by
    intro X hP hw hK hc i pins s σ H E I hf st hg
    subst hP hw hK
    obtain ⟨⟨old, he⟩, hit, hne⟩ := st
    obtain ⟨f0, f1, f2, f3, f4, f5⟩ := hf it (by simp)
    have hg : i = x.cps.size := hg
    subst hg
    exact wpAny_pyNext_enum_endD (Draws.text (A := X.A.in1) (I.ok.hd hc) it x t) he hit fun h' eb => ⟨rfl, I.turned (t' := s.toks) (fun b o hb q => eb b o hb q) f0 f1 f3 f4 f5⟩
  self := fun A i s Q E st h => let ⟨⟨_, he⟩, _⟩ := st; wpAny_pyIter_enum he h
def iEnumS (ta : TA) : TI := fun σ H R => ta σ H fun vs H1 => ∃ x : Str, vs = [.str x] ∧ R (ItsE x) H1
theorem pi_enumS {X : Cx} {e : Expr} {ta : TA} {p pos tpos : Pos} {elts : List Expr} {kk : Nat} (hg : Gl X "enumerate") (hm : X.mg "enumerate" = none) (ha : PA X [e] ta) (hs : starEach [e] X.env = [(false, eval e X.env)] := by rfl) :
    PI X (.Tuple elts kk tpos) (.Call (.Name "enumerate" p) [e] [] pos) (iEnumS ta) := by
  refine ⟨fun pins s σ H R I h => ?_⟩
  refine Call_ (ld_blt I hg hm boot_enumerate (PyProof.Rows.callWith_type1 (thn (ha.run pos pins s σ H _ I h) fun us s1 ⟨vs, H1, I1, r1, q1⟩ => ?_) hs rfl))
  obtain ⟨x, ex, q⟩ := q1
  subst ex
  obtain ⟨u, rfl, ru⟩ := vals1 r1
  obtain ⟨t, rfl⟩ := ru
  refine call_enumerate_str fun h' he hit hsz hk => wpAny_pyIter_enum he ?_
  have I2 : Inv X pins σ H1 { s1 with heap := h' } := I1.kept (t' := s1.toks) hk
  refine ⟨s1.heap.objs.size + 1, [s1.heap.objs.size + 1, s1.heap.objs.size], _, _, H1, rfl, I2, turn_enumS x t (s1.heap.objs.size + 1) s1.heap.objs.size, ⟨⟨.none, he⟩, hit, Nat.succ_ne_self _⟩, fun b hb => ?_, q⟩
  have e' : b = s1.heap.objs.size + 1 ∨ b = s1.heap.objs.size := by simpa using hb
  have hle : s1.heap.objs.size ≤ b := by
    rcases e' with z | z
    · rw [z]; exact Nat.le_add_right _ _
    · rw [z]; exact Nat.le_refl _
  exact I1.fpOk hle (I1.hok.fresh hle)
/-- a loop over it: Pv ahead of each turn -/
theorem for_enumS {x : Str} {g : TG} {tb : TS} {D : Ends} {σ : L2.St} {H : Hp} (Pv : Nat → L2.St → Hp → Prop) (h0 : Pv 0 σ H)
    (hs : ∀ i c σ H T, x.cps[i]? = some c → Pv i σ H → H T = none → g (.ref T) σ (upd H T (.tup [.int (i : Nat), .str ⟨#[c]⟩])) fun σ2 H2 => tb { D with nx := Pv (i + 1), ct := Pv (i + 1), bk := D.nx } σ2 H2) (hd : ∀ σ H, Pv x.cps.size σ H → D.nx σ H) :
    ∃ W : Nat → Nat → L2.St → Hp → Prop, (∃ m, W 0 m σ H) ∧ ∀ i m σ H, W i m σ H → ((ItsE x).stop i H ∧ D.nx σ H) ∨ ((ItsE x).go i H ∧ ∃ Nx : L2.St → Hp → Prop, (∀ σ' H', Nx σ' H' → ∃ m', m' < m ∧ W (i + 1) m' σ' H') ∧
      ∀ v H', (ItsE x).yld i H v H' → g v σ H' fun σ2 H2 => tb { D with nx := Nx, ct := Nx, bk := D.nx } σ2 H2) := by
  refine ⟨fun i m σ H => m = x.cps.size - i ∧ i ≤ x.cps.size ∧ Pv i σ H, ⟨x.cps.size, by simp, Nat.zero_le _, h0⟩, ?_⟩
  rintro i m σ H ⟨rfl, hi, p⟩
  by_cases lt : i < x.cps.size
  · refine .inr ⟨lt, Pv (i + 1), fun σ' H' p' => ⟨x.cps.size - (i + 1), by omega, rfl, lt, p'⟩, fun v H' y => ?_⟩
    obtain ⟨T, c, hc, rfl, hn, rfl⟩ := y
    exact hs i c σ H T hc p hn
  · have e : i = x.cps.size := by omega
    subst e
    exact .inl ⟨rfl, hd σ H p⟩
end Me
set_option maxHeartbeats 8000000
namespace Me
open PySem PySem.Spec PyProof.Rows L2 HT
section
variable {X : Cx}
/-! ### repr of a text -/
theorem call_repr_str : CallR X (.builtin "repr") (fun xs H Q => ∃ z, xs = [.str z] ∧ (reprText z).length ≤ sizeLine ∧ Q (.str (reprText z)) H) := by
  intro pins s σ H xs us Q I r h
  obtain ⟨z, rfl, hz, q⟩ := h
  obtain ⟨u, rfl, t, rfl⟩ := vals1 r
  exact PySem.P.repr_of_str ⟨.str _, H, I.tok _, ⟨_, rfl⟩, q⟩ hz
/-- repr of a text or an int -/
def rRepr : List V → Hp → VK → Prop := fun xs H Q => (∃ z, xs = [.str z] ∧ (reprText z).length ≤ sizeLine ∧ Q (.str (reprText z)) H) ∨ ∃ i, xs = [.int i] ∧ i.natAbs.log2 < 1920 ∧ Q (.str (toString i)) H
theorem call_repr : CallR X (.builtin "repr") rRepr := by
  intro pins s σ H xs us Q I r h
  rcases h with h | h
  · exact call_repr_str pins s σ H xs us Q I r h
  · exact SkE.call_repr_int pins s σ H xs us Q I r h
/-! ### '1' * n -/
def repS (z : Str) (n : Nat) : Str := ⟨(List.replicate n z.cps).foldl (· ++ ·) #[]⟩
theorem op_mulS : OpR X (binaryOp .Mult) (fun x y H Q => ∃ (c : Nat) (n : Nat), x = .str ⟨#[c]⟩ ∧ y = .int (n : Int) ∧ n ≤ 1000 ∧ Q (.str ⟨(List.replicate n c).toArray⟩) H) := by
  intro pins s σ H x y v u Q I rx ry h
  obtain ⟨c, n, rfl, rfl, hn, q⟩ := h
  obtain ⟨t, rfl⟩ := rx
  obtain ⟨t', rfl⟩ := ry
  have len1 : (⟨#[c]⟩ : PySem.Str).length = 1 := rfl
  have rep : ∀ k : Nat, (List.replicate k (#[c] : Array Nat)).foldl (· ++ ·) #[] = (List.replicate k c).toArray := by
    intro k
    have gen : ∀ (k : Nat) (a : Array Nat), (List.replicate k (#[c] : Array Nat)).foldl (· ++ ·) a = a ++ (List.replicate k c).toArray := by
      intro k
      induction k with
      | zero => intro a; simp
      | succ k ih =>
        intro a
        rw [List.replicate_succ, List.foldl_cons, ih, List.replicate_succ]
        apply Array.toList_inj.mp
        simp
    rw [gen]; simp
  have hr : (decide ((n : Int) < -(2 ^ 63 : Int)) || decide ((n : Int) ≥ 2 ^ 63)) = false := by
    rw [decide_eq_false (by omega), decide_eq_false (by omega)]; rfl
  refine PySem.P.mul_str hr (fun h1 h2 => ?_) (fun h1 h2 => ?_) ?_
  · rw [len1]
    have : (1 : Int) ≤ (2 ^ 63 - 1) / (n : Int) := by
      rw [Int.le_ediv_iff_mul_le (by omega)]; omega
    show ¬ ((1 : Nat) : Int) > (2 ^ 63 - 1) / (n : Int)
    omega
  · rw [len1]
    show Builtin.Str.tooLong (1 * ((n : Int)).toNat) = false
    unfold Builtin.Str.tooLong
    refine decide_eq_false ?_
    have : sizeLine = 16777216 := sizeLine_eq
    simp only [Int.toNat_natCast]
    omega
  · by_cases h0 : (n : Int) < 1
    · have e : n = 0 := by omega
      subst e
      rw [if_pos h0]
      exact ⟨by decide, ⟨.str _, H, I.tok _, ⟨_, rfl⟩, q⟩⟩
    · rw [if_neg h0]
      by_cases h1 : ((n : Int) == 1 || (⟨#[c]⟩ : PySem.Str).length == 0) = true
      · have e : n = 1 := by
          rw [len1] at h1
          simp at h1
          omega
        subst e
        rw [if_pos h1]
        exact ⟨.str _, H, I, ⟨_, rfl⟩, q⟩
      · rw [if_neg h1]
        refine ⟨?_, ⟨.str _, H, I.tok _, ⟨_, rfl⟩, ?_⟩⟩
        · rw [Int.toNat_natCast, rep]
          show (List.replicate n c).toArray.size ≤ sizeLine
          rw [List.size_toArray, List.length_replicate, sizeLine_eq]
          omega
        · show Q (.str ⟨(List.replicate ((n : Int)).toNat #[c]).foldl (· ++ ·) #[]⟩) H
          rw [Int.toNat_natCast, rep]
          exact q
/-! ### == with an empty tuple, an empty list -/
theorem op_eqT0 (hu : X.A.units < cLine) : OpR X (compareOp .Eq) (fun x y H Q => ∃ a b xs, x = .ref a ∧ y = .ref b ∧ SqT X.K H a xs ∧ SqT X.K H b [] ∧ Q (.bl xs.isEmpty) H) := by
  intro pins s σ H x y v u Q I rx ry h
  obtain ⟨a, b, xs, rfl, rfl, ha, hb, q⟩ := h
  obtain rfl : v = Value.ref a := rx
  obtain rfl : u = Value.ref b := ry
  obtain ⟨its, rv, ht, _⟩ := I.tuple ha
  obtain ⟨its2, rv2, ht2, _⟩ := I.tuple hb
  have e2 : its2 = [] := by cases rv2; rfl
  subst e2
  have rc := SeqAt.RcAt.tuples (A := X.A) (s := s) (l := a) (b := b) (e := fun _ => true) ht ht2 hu (fun j h1 h2 => absurd h2 (by simp))
  refine PySem.EqBoolInt.of_rc rc ?_
  have e : ((List.range (min its.toArray.size ([] : List Value).toArray.size)).all (fun _ => true) && its.toArray.size == ([] : List Value).toArray.size) = xs.isEmpty := by
    have hl := rv.length
    cases xs with
    | nil =>
      have : its = [] := by cases rv; rfl
      subst this; rfl
    | cons y ys =>
      cases rv
      simp
  rw [e]
  exact ⟨.bl _, H, I, rfl, q⟩
theorem op_eqL0 (hu : X.A.units < cLine) : OpR X (compareOp .Eq) (fun x y H Q => ∃ a b xs, x = .ref a ∧ y = .ref b ∧ SqL X.K H a xs ∧ SqL X.K H b [] ∧ Q (.bl xs.isEmpty) H) := by
  intro pins s σ H x y v u Q I rx ry h
  obtain ⟨a, b, xs, rfl, rfl, ha, hb, q⟩ := h
  obtain rfl : v = Value.ref a := rx
  obtain rfl : u = Value.ref b := ry
  obtain ⟨its, rv, ht, _⟩ := I.list ha
  obtain ⟨its2, rv2, ht2, _⟩ := I.list hb
  have e2 : its2 = [] := by cases rv2; rfl
  subst e2
  cases xs with
  | nil =>
    have : its = [] := by cases rv; rfl
    subst this
    refine PySem.EqBoolInt.of_rc (SeqAt.RcAt.lists (A := X.A) (e := fun _ => true) ht.isList ht2.isList rfl hu (fun j h1 h2 => absurd h2 (by simp))) ?_
    exact ⟨.bl _, H, I, rfl, q⟩
  | cons y ys =>
    cases rv
    refine PySem.EqBoolInt.of_rc (SeqAt.RcAt.lists_lengths (A := X.A) ht.isList ht2.isList (by simp) hu) ?_
    exact ⟨.bl _, H, I, rfl, q⟩
end
end Me
set_option maxHeartbeats 8000000
namespace Me
open PySem PySem.Spec PyProof.Rows L2 HT
theorem pick_back (items : Array Value) (hsz : items.size ≤ 1) : ((List.range items.size).filterMap fun (m : Nat) => items[((items.size : Int) - 1 + (m : Int) * (-1)).toNat]?) = items.toList := by
  obtain ⟨l⟩ := items
  rcases l with _ | ⟨x, _ | ⟨y, r⟩⟩
  · rfl
  · show ([0] : List Nat).filterMap (fun (m : Nat) => (#[x] : Array Value)[(((1 : Nat) : Int) - 1 + (m : Int) * (-1)).toNat]?) = [x]
    have e : (((1 : Nat) : Int) - 1 + ((0 : Nat) : Int) * (-1)).toNat = 0 := by decide
    rw [List.filterMap_cons, e]
    rfl
  · exact absurd hsz (by simp)
section
variable {prog : Program} {w : World} {A : Around} {E : Value → Shared → Prop} {s : Shared}
/-! ### t[::-1], t of one item at most -/
theorem sliceApplied_back {sl : Addr} {vl vu vs : Value} {n : Nat} {Q : Int × Int × Nat → Shared → Prop} (hs : s.heap.IsSliceOf sl vl vu vs) (pl : IsPart vl none) (pu : IsPart vu none) (ps : IsPart vs (some (-1))) (hn : n ≤ 1)
    (h : Q ((n : Int) - 1, -1, n) s) : wpAny (model prog w) A (Builtin.Slice.sliceApplied (.ref sl) (pure (n : Int))) Q E s := by
  obtain ⟨os, hos, hcs, hds⟩ := id hs
  unfold Builtin.Slice.sliceApplied Builtin.Slice.sliceFields
  refine wpAny_bind (wpAny_bind (wpAny_field hos hds (x := vl) rfl (wpAny_bind (wpAny_field hos hds (x := vu) rfl (wpAny_bind (wpAny_field hos hds (x := vs) rfl (wpAny_pure ?_)))))))
  refine wpAny_bind (slicePart_ ps ?_)
  show wpAny _ _ (if ((-1 : Int) == 0) = true then _ else _) _ _ s
  rw [if_neg (by decide)]
  refine wpAny_bind (slicePart_ pl (wpAny_bind (slicePart_ pu (wpAny_bind (wpAny_pure ?_)))))
  show wpAny _ _ (match Builtin.Slice.sliceAdjust none none (-1) (n : Int) with | (lo, hi) => pure (lo, (-1 : Int), Builtin.Slice.slicePlaces lo hi (-1))) _ _ s
  have e : Builtin.Slice.sliceAdjust none none (-1) (n : Int) = ((n : Int) - 1, -1) ∧ Builtin.Slice.slicePlaces ((n : Int) - 1) (-1) (-1) = n := by
    have : n = 0 ∨ n = 1 := by omega
    rcases this with rfl | rfl
    · exact ⟨by decide, by decide⟩
    · exact ⟨by decide, by decide⟩
  rw [e.1]
  show wpAny _ _ (pure ((n : Int) - 1, (-1 : Int), Builtin.Slice.slicePlaces ((n : Int) - 1) (-1) (-1))) _ _ s
  rw [e.2]
  exact wpAny_pure h
theorem getItem_tuple_back {t sl : Addr} {items : Array Value} {vl vu vs : Value} {Q : Value → Shared → Prop} (ht : IsTup s.heap t items) (hs : s.heap.IsSliceOf sl vl vu vs) (pl : IsPart vl none) (pu : IsPart vu none) (ps : IsPart vs (some (-1)))
    (h : Q (.ref s.heap.objs.size) { s with heap := s.heap.push { cls := .type "tuple", data := .seq items } })
    (hsz : items.size ≤ 1) : wpAny (model prog w) A (getItem (.ref t) (.ref sl)) Q E s := by
  have htake : sizeOk (.seq items) := by
    show items.size ≤ sizeLine
    rw [sizeLine_eq]; omega
  obtain ⟨os, hos, hcs, hds⟩ := id hs
  have hTs : s.TypeIs (.ref sl) "slice" := ⟨os, hos, hcs⟩
  unfold getItem
  try with_reducible refine wpAny_holding ?_
  first | refine wpAny_bind (wpAny_pure ?_) | skip
  refine wpAny_bind (wpAny_sequenceKey ht.typeIs (by decide) ?_)
  refine wpAny_bind (wpAny_callSpecial?_slot (name := Str.ofString "__getitem__") ht.typeIs PyProof.Rows.slot_tuple_getitem
    (wpAny_call_entry PyProof.Rows.slot_tuple_getitem ht.typeIs entry_tuple_getitem ?_ (args_tuple_getitem _ _)))
  show wpAny _ _ (Builtin.Tuple.tupleItemsOf (.ref t) >>= _) _ _ s
  refine wpAny_bind (tupleItemsOf_ ht ?_)
  refine wpAny_bind (wpAny_typeOf hTs ?_)
  rw [if_pos (by decide)]
  refine wpAny_bind (sliceApplied_back hs pl pu ps hsz ?_)
  have hno : ¬ ((((items.size : Int) - 1) == 0 && (-1 : Int) == 1 && items.size == items.size) = true) := by
    intro q
    rw [Bool.and_eq_true, Bool.and_eq_true] at q
    exact absurd q.1.2 (by decide)
  show wpAny _ _ (if (((items.size : Int) - 1) == 0 && (-1 : Int) == 1 && items.size == items.size) = true then _ else _) _ _ s
  rw [if_neg hno, pick_back items hsz, Array.toArray_toList]
  first
    | exact wpAny_bind (m := Builtin.Tuple.tupleExact _) (wpAny_newObj_type (wpAny_pure ⟨_, rfl, wpAny_pure h⟩) htake)
    | exact wpAny_bind (m := Builtin.Tuple.tupleExact _) (wpAny_newObj_type (wpAny_bind (wpAny_pure (wpAny_pure ⟨_, rfl, wpAny_pure h⟩))) htake)
    | exact wpAny_bind (wpAny_bind (m := Builtin.Tuple.tupleExact _) (wpAny_newObj_type (wpAny_pure (wpAny_pure ⟨_, rfl, wpAny_pure h⟩)) htake))
    | exact wpAny_bind (wpAny_bind (m := Builtin.Tuple.tupleExact _) (wpAny_newObj_type (wpAny_pure ⟨_, rfl, wpAny_pure h⟩) htake))
end
def tRevT (K : PySem.W.Frag) (te : TE) : TE := fun σ H Q => te σ H fun x H1 => ∃ a xs, x = .ref a ∧ SqT K H1 a xs ∧ xs.length ≤ 1 ∧ ∀ p, H1 p = none → Q (.ref p) (upd H1 p (.tup xs))
theorem pe_revT {X : Cx} {e : Expr} {te : TE} {k : Nat} {p1 p2 p3 pos : Pos} (he : PE X e te) : PE X (.Subscript e (.Slice none none (some (.UnaryOp .USub (.Constant (.int 1) k p1) p2)) p3) pos) (tRevT X.K te) := by
  refine ⟨fun pins s σ H Q I h => ?_⟩
  refine Subscript_ (thn (he.run pins s σ H _ I h) fun v s1 ⟨x, H1, I1, r1, q1⟩ => ?_)
  obtain ⟨a, xs, ex, hx, hl1, q⟩ := q1
  subst ex
  cases r1
  have hst : PO X (some (.UnaryOp .USub (.Constant (.int 1) k p1) p2)) (tPart (tUn (rU fun i => .int (-i)) (tC (.int 1)))) := po_some (pe_un un_neg pe_int)
  refine wpAny_Slice (thn (po_none.run pins s1 σ H1 (fun o H2 => o = none ∧ H2 = H1) I1 ⟨rfl, rfl⟩) fun vl s2 ⟨l, H2, I2, pl, el, e2⟩ => ?_)
  subst el e2
  refine thn (po_none.run pins s2 σ H2 (fun o H3 => o = none ∧ H3 = H2) I2 ⟨rfl, rfl⟩) fun vu s3 ⟨u, H3, I3, pu, eu, e3⟩ => ?_
  subst eu e3
  refine thn (hst.run pins s3 σ H3 (fun o H4 => o = some (-1) ∧ H4 = H3) I3 ⟨1, rfl, -1, rfl, rfl, rfl⟩) fun vs s4 ⟨o, H4, I4, ps, eo, e4⟩ => ?_
  subst eo e4
  have I5 : Inv X pins σ H4 { s4 with heap := s4.heap.push { cls := .type "slice", data := .fields #[vl, vu, vs] } } := I4.kept (t' := s4.toks) fun b ob q => Heap.get?_push_of_some _ q
  obtain ⟨its, r, ht, hz⟩ := I5.tuple hx
  have hlen := r.length
  show wpAny (model X.prog X.w) X.A (subscriptTail e (.Slice none none (some (.UnaryOp .USub (.Constant (.int 1) k p1) p2)) p3) (.ref a) (.ref s4.heap.objs.size)) (EP X pins σ Q) X.xe { s4 with heap := s4.heap.push { cls := .type "slice", data := .fields #[vl, vu, vs] } }
  refine tail_any (ops := [.ref a, .ref s4.heap.objs.size]) ht.typeIs (PyProof.Rows.slot_tuple_getitem.lookup) ?_ (by with_unfolding_all rfl)
  refine getItem_tuple_back ht (Heap.IsSliceOf.new _ vl vu vs) pl pu ps ?_ (by rw [List.size_toArray, ← hlen]; exact hl1)
  refine ⟨.ref _, _, I5.laid (t' := s4.toks) (o := .tup xs) (fun b ob q => Heap.get?_push_of_some _ q) (Nat.le_refl _) ?_, rfl, q _ (I5.hok.fresh (Nat.le_refl _))⟩
  exact ⟨hz, its, r, ⟨_, Heap.get?_push_size _ rfl, rfl, 0, rfl⟩⟩
end Me
set_option maxHeartbeats 8000000
namespace Me
open PySem PySem.Spec PyProof.Rows L2
/-! ### a def that is handed the exception that its caller's suite holds -/
structure FnP (P : Program) (w : World) (K : PySem.W.Frag) (mg : Str → Option Value) (base : Heap) (k : Nat) (f : Addr) (fd : FuncData) (ps : List Str) (sp : Addr × Obj → Sp) : Prop where
  len : ∀ p vs H Q E, sp p vs H Q E → vs.length = ps.length
  run : ∀ (A : Around) (outer : List Env) (s : Shared) (H : Hp) (args : Args) (us : List Value) (vs : List V) (Q : VK) (E : XK) (p : Addr × Obj), L2H.RoomH k A → L2H.PinOk outer H s p → Env0 P w K mg base A outer s H → BindsTo s fd args (ps.zip us) → Vals vs us → sp p vs H Q E →
    codeAny (model P w) A (.call (.ref f) args) (CR CX0 outer P w H s Q E) s
theorem okP {P : Program} {w : World} {K : PySem.W.Frag} {mg : Str → Option Value} {base : Heap} {x qual : Str} {params : Arguments} {body : List Stmt} {scope : Scope} {f : Addr} {fd : FuncData} {N ps : List Str} {k : Nat} {sp : Addr × Obj → Sp}
    (F : FunD K x qual params body scope [] [] f fd) (S : FnScope N ps scope) (len : ∀ p vs H Q E, sp p vs H Q E → vs.length = ps.length)
    (go : ∀ (cdv : Value) (A : Around) (outer : List Env) (s : Shared) (H : Hp) (vs : List V) (Q : VK) (E : XK) (p : Addr × Obj), L2H.RoomH k (A.deeper (envOfC qual scope s.heap.objs.size f cdv)) → sp p vs H Q E →
      ∃ t, PSs (L2H.cxH CX0 P w K mg base N qual scope f cdv A outer s H E p) body t ∧ t { nx := fun _ H' => Q .non H', rt := Q } (L2.start N vs) H) : FnP P w K mg base (k + 1) f fd ps sp := by
  obtain ⟨oc, od, dV, kV, doc, pm, an, cdv, ct, osl, rfl, lk, hcd, _, _⟩ := F.ex
  refine ⟨len, fun A outer s H args us vs Q E p room pin e0 hbd rv hsp => ?_⟩
  have ll := len _ _ _ _ _ hsp
  have kin : K.In s.heap := e0.mod.kin.keeps fun b o z => (e0.bs b o z).1
  have lim : s.heap.NoLimit := e0.mod.nolimit.keeps fun b o z => (e0.bs b o z).1
  have knd : ∀ y ∈ ps.zip us, scope.names.lookup y.1 = some .local ∨ (scope.names.lookup y.1 = some .cell ∧ ((cellsFrom (s.heap.objs.size + 1) scope.names []).lookup y.1).isSome = true) := by
    rintro ⟨n, v⟩ hy
    cases S.par n (List.of_mem_zip hy).1 with
    | inl q => exact .inl q
    | inr q => exact .inr ⟨q, PySem.W.cellsFrom_some _ _ _ (.inl q)⟩
  refine codeAny_call_function room.depth (kin _ _ lk) rfl S.co S.gen rfl (PySem.W.codeRec_of kin hcd) (hbd _ _ _ _ ?_)
  refine wpAny_newFunctionEnv_cells S.kind knd fun env he s1 inn => ?_
  subst he
  refine ⟨lim.keeps inn.toInCall.keep, codeAny_func ?_⟩
  obtain ⟨t, ht, hq⟩ := go cdv A outer s H vs Q E p (room.deeper _) hsp
  have I0 : Inv (L2H.cxH CX0 P w K mg base N qual scope f cdv A outer s H E p) [] (L2.start N vs) H s1 := L2H.inv_startH S pin e0 ll rv inn
  have out : ∀ {σ1 : L2.St} {H1 : Hp} {s2 : Shared} {v : V} {u : Value}, Inv (L2H.cxH CX0 P w K mg base N qual scope f cdv A outer s H E p) [] σ1 H1 s2 → RelV v u → Q v H1 → CE outer P w H s Q u s2 :=
    fun {σ1 H1 s2 v u} J r q => ⟨v, H1, J.os, J.bare, J.base, J.hok, r, q⟩
  refine wpAny_mono (ht.run [] s1 (L2.start N vs) H _ I0 hq) (fun fl s2 hs => ?_) fun e s2 hs => hs
  cases fl with
  | next => obtain ⟨σ1, H1, J, q⟩ := hs; exact out (v := V.non) (u := Value.none) J rfl q
  | ret u => obtain ⟨v, σ1, H1, J, r, q⟩ := hs; exact out J r q
  | brk => obtain ⟨_, _, _, q⟩ := hs; exact q.elim
  | cont => obtain ⟨_, _, _, q⟩ := hs; exact q.elim
section
variable {X : Cx} {k : Nat} {f : Addr} {fd : FuncData} {ps : List Str} {sp : Addr × Obj → Sp} {x : Str} {q pos : Pos} {e : Expr} {es : List Expr} {t : TA} {p : Addr × Obj}
theorem pe_callP (F : FnP X.prog X.w X.K X.mg X.base k f fd ps sp) (room : L2H.RoomH k X.A) (hp : p ∈ X.pn) (hg : Gl X x) (hm : X.mg x = some (.ref f)) (hk : PySem.W.keepIn X.K (.ref f) = true) (hb : Binds X.K fd ps [])
    (ha : PA X (e :: es) t) (hdb : (x == ("__debug__" : Str)) = false := by decide) (he : starEach (e :: es) X.env = (false, eval e X.env) :: starEach es X.env := by rfl) (hpl : (backTo pos (starEach es X.env)).any (·.1) = false := by rfl) :
    PE X (.Call (.Name x q) (e :: es) [] pos) (tCall (sp p) [] E0 t) := by
  refine ⟨fun pins s σ H Q I h => wpAny_Call_Name_kw (ld_glob I hg hm ?_ hdb)⟩
  refine PySem.W.callWith_K (h₀ := X.base) I.ok.mod.kin hk (thn (ha.run pos pins s σ H _ I h) fun us s1 hh => ?_) he hpl
  obtain ⟨vs, H1, J, r, hsp⟩ := hh
  rw [List.append_nil] at hsp
  refine ⟨J.kIn, ?_⟩
  have ll : us.length = ps.length := by rw [← r.length]; exact F.len _ _ _ _ _ hsp
  have bd := hb s1 us J.kIn (by rw [List.append_nil]; exact ll)
  rw [List.append_nil] at bd
  have P1 := J.pin p (List.mem_append_left _ hp)
  have pin : L2H.PinOk X.stack H1 s1 p := ⟨P1.1, P1.2.1, fun hm => (List.mem_cons.mp (J.stkSub p.1 hm)).elim P1.2.2.1 P1.2.2.2.1, P1.2.2.2.2⟩
  refine wpAny_call (codeAny_mono (F.run X.A X.stack s1 H1 ⟨us, []⟩ us vs Q E0 p room pin J.env0 bd r hsp) fun r s2 hq => ?_)
  cases r with
  | error e => exact hq.elim
  | ok fl =>
    cases fl with
    | ret u => exact J.after hq
    | next => exact hq.elim
    | brk => exact hq.elim
    | cont => exact hq.elim
end
/-! ### isinstance, attributes of such an exception -/
/-- what the written part says of the class D for that -/
structure IsC (K : PySem.W.Frag) (D : Addr) : Prop where
  ga : PySem.W.findIn K (.ref D) "__getattribute__" = some (some (.builtin "BaseException.__getattribute__"))
  gg : PySem.W.findIn K (.ref D) "__getattr__" = some none
  sb : PySem.W.subIn K (.ref D) (.type "BaseException") = some true
  hd : PySem.W.hasDictIn K D = true
  cl : PySem.W.findIn K (.ref D) "__class__" = some (some (.builtin "object.__class__"))
  sg : PySem.W.specialIn K (.builtin "object.__class__") "__get__" = some (some (.builtin "getset_descriptor.__get__"))
  tk : PySem.W.takesIn K (.builtin "object.__class__") = some true
  mo : PySem.W.mroIn K D (.type "object") = some true
/-- the exception's own dict, where it has one -/
def DictOk (H : Hp) : Option Addr → Prop
  | none => True
  | some dd => ∃ fs, H dd = some (.xd fs)
theorem inst_of {X : Cx} {pins : List (Addr × Obj)} {σ : L2.St} {H : Hp} {s : Shared} {a D : Addr} {oe : Obj} {d : Option Addr} (I : Inv X pins σ H s) (hp : (a, oe) ∈ X.pn) (hz : Zc (.ref D) d oe) (hf : ∃ vs, oe.data = .fields vs) (hd : DictOk H d) :
    ∃ od, PySem.W.InstAt s.heap a oe D od := by
  have g := (I.pin (a, oe) (List.mem_append_left _ hp)).1
  obtain ⟨vs, hv⟩ := hf
  obtain ⟨oc, odc, oda, osl⟩ := oe
  obtain ⟨h1, h2⟩ := hz
  dsimp only at h1 h2 hv
  subst h1 h2 hv
  cases odc with
  | none => exact ⟨none, g, rfl, rfl, trivial⟩
  | some dd =>
    obtain ⟨fs, hdd⟩ := hd
    obtain ⟨mA, ⟨o, es, ep, ho, _⟩, _⟩ := (show ObjOk X.prog X.w H s.heap dd (.xd fs) from I.hok dd _ hdd)
    exact ⟨some o, g, rfl, rfl, ho⟩
def rIsP (K : PySem.W.Frag) (a D : Addr) (d : Option Addr) : List V → Hp → VK → Prop := fun xs H Q => ∃ (c : V) (cv : Value) (b : Bool), xs = [.ref a, c] ∧ ClsV c cv ∧ PySem.W.kitOne K (.ref D) cv = some b ∧ DictOk H d ∧ Q (.bl b) H
theorem call_isP {X : Cx} {a D : Addr} {oe : Obj} {d : Option Addr} (C : IsC X.K D) (hp : (a, oe) ∈ X.pn) (hz : Zc (.ref D) d oe) (hf : ∃ vs, oe.data = .fields vs) : CallR X (.builtin "isinstance") (rIsP X.K a D d) := by
  intro pins s σ H xs us Q I r h
  obtain ⟨c, cv, b, rfl, kc, e, hd, q⟩ := h
  obtain ⟨u1, u2, rfl, r1, r2⟩ := vals2 r
  have e2 := kc.eq r2
  subst e2
  cases (show u1 = Value.ref a from r1)
  obtain ⟨od, J⟩ := inst_of I hp hz hf hd
  have hcl : (PySem.W.clsIn X.K D).isSome = true := by
    obtain ⟨cd, hc, _⟩ := PySem.W.any_some C.hd
    rw [hc]; rfl
  exact PySem.W.kia_one (PySem.W.kitx_exc (od := od) (ox := oe) hcl C.ga C.gg C.sb C.cl C.sg C.tk C.mo) I.kIn J e (fun z => nomatch z) fun tk => ⟨.bl b, H, I.tok tk, rfl, q⟩
/-- e.f -/
def tXp (a : Addr) (d : Option Addr) (f : Str) (te : TE) : TE := fun σ H Q => te σ H fun x H1 => x = .ref a ∧ ∃ (dd : Addr) (fs : List (Str × V)) (v : V), d = some dd ∧ H1 dd = some (.xd fs) ∧ fs.lookup f = some v ∧ Q v H1
theorem pe_xP {X : Cx} {a D : Addr} {oe : Obj} {d : Option Addr} {e : Expr} {te : TE} {pos : Pos} {n : Str} (C : IsC X.K D) (hno : PySem.W.findIn X.K (.ref D) n = some none) (hp : (a, oe) ∈ X.pn) (hz : Zc (.ref D) d oe) (hf : ∃ vs, oe.data = .fields vs) (he : PE X e te)
    (hb : attributeBase e n X.env (eval e X.env) = eval e X.env := by rfl) : PE X (.Attribute e n pos) (tXp a d n te) := by
  refine ⟨fun pins s σ H Q I h => attr_of hb (thn (he.run pins s σ H _ I h) fun u s1 hh => ?_)⟩
  obtain ⟨x, H1, J, rx, ex, dd, fs, v, ed, ea, l, q⟩ := hh
  subst ex
  obtain rfl : u = Value.ref a := rx
  subst ed
  have g := (J.pin (a, oe) (List.mem_append_left _ hp)).1
  obtain ⟨vs, hv⟩ := hf
  obtain ⟨mA, hns, hr⟩ := (show ObjOk X.prog X.w H1 s1.heap dd (.xd fs) from J.hok dd _ ea)
  obtain ⟨od, ho, hl⟩ := lookIn_ns hns
  obtain ⟨u, hu, ru⟩ := RelO.some_of (v := v) (o := mA n) (by rw [← l]; exact hr n)
  have T : PySem.W.InstAt s1.heap a oe D (some od) := ⟨g, hz.1, by unfold PySem.W.notCls; rw [hv] <;> rfl, by rw [hz.2]; exact ho⟩
  exact HandSPX.exc_get J.kIn T C.ga C.gg C.sb (PySem.W.findObj_own C.hd hno rfl (by rw [hl, hu])) (handed_of ru) ⟨v, H1, J.tok _, ru, q⟩
end Me
set_option maxHeartbeats 8000000
namespace Me
open PySem L2
structure DA where
  f : Addr
  fd : FuncData
/-- a def of the text -/
structure Df (K : PySem.W.Frag) (mg : Str → Option Value) (x : Str) (st : Stmt) (ps : List Str) (d : DA) : Prop where
  fn : FunD K x x (defArgs st) (defBody st) (defScope st) [] [] d.f d.fd
  mg : mg x = some (.ref d.f)
  b : Binds K d.fd ps []
theorem Df.kp {K : PySem.W.Frag} {mg : Str → Option Value} {x : Str} {st : Stmt} {ps : List Str} {d : DA} (h : Df K mg x st ps d) : PySem.W.keepIn K (.ref d.f) = true := h.fn.kp
theorem ok0 {P : Program} {w : World} {K : PySem.W.Frag} {mg : Str → Option Value} {base : Heap} {x qual : Str} {params : Arguments} {body : List Stmt} {scope : Scope} {f : Addr} {fd : FuncData} {N ps : List Str} {k : Nat} {sp : Sp} (F : FunD K x qual params body scope [] [] f fd) (S : FnScope N ps scope) (len : ∀ vs H Q E, sp vs H Q E → vs.length = ps.length)
    (go : ∀ (cdv : Value) (A : Around) (outer : List Env) (s : Shared) (H : Hp) (vs : List V) (Q : VK) (E : XK), Room k (A.deeper (PyProof.Rows.envOfC qual scope s.heap.objs.size f cdv)) → sp vs H Q E →
      ∃ t, PSs (cxOf CX0 P w K mg base N qual scope f cdv A outer s H E).nox body t ∧ t { nx := fun _ H' => Q .non H', rt := Q } (start N vs) H) : FnOk P w K mg base CX0 (k + 1) f fd ps sp := by
  refine F.ok S len fun cdv A outer s H vs Q E hr h => ?_
  obtain ⟨t, h1, q⟩ := go cdv A outer s H vs Q E hr h
  exact ⟨t, h1.nox, q⟩
theorem Df.ok {P : Program} {w : World} {K : PySem.W.Frag} {mg : Str → Option Value} {base : Heap} {x : Str} {st : Stmt} {ps ps' N : List Str} {d : DA} {k : Nat} {sp : Sp} (D : Df K mg x st ps' d) (S : FnScope N ps (defScope st)) (len : ∀ vs H Q E, sp vs H Q E → vs.length = ps.length)
    (go : ∀ (cdv : Value) (A : Around) (outer : List Env) (s : Shared) (H : Hp) (vs : List V) (Q : VK) (E : XK), Room k (A.deeper (PyProof.Rows.envOfC x (defScope st) s.heap.objs.size d.f cdv)) → sp vs H Q E →
      ∃ t, PSs (cxOf CX0 P w K mg base N x (defScope st) d.f cdv A outer s H E).nox (defBody st) t ∧ t { nx := fun _ H' => Q .non H', rt := Q } (start N vs) H) : FnOk P w K mg base CX0 (k + 1) d.f d.fd ps sp := ok0 D.fn S len go
theorem Df.okX {P : Program} {w : World} {K : PySem.W.Frag} {mg : Str → Option Value} {base : Heap} {x : Str} {st : Stmt} {ps ps' N : List Str} {d : DA} {k : Nat} {sp : Sp} (D : Df K mg x st ps' d) (S : FnScope N ps (defScope st)) (len : ∀ vs H Q E, sp vs H Q E → vs.length = ps.length)
    (go : ∀ (cdv : Value) (A : Around) (outer : List Env) (s : Shared) (H : Hp) (vs : List V) (Q : VK) (E : XK), Room k (A.deeper (PyProof.Rows.envOfC x (defScope st) s.heap.objs.size d.f cdv)) → sp vs H Q E →
      ∃ t, PSs (cxOf (L2.CX P w) P w K mg base N x (defScope st) d.f cdv A outer s H E) (defBody st) t ∧ t { nx := fun _ H' => Q .non H', rt := Q } (start N vs) H) : FnOk P w K mg base (L2.CX P w) (k + 1) d.f d.fd ps sp := D.fn.ok S len go
/-! ### the errors -/
/-- what the written part says of the i-th error -/
structure Er (P : Program) (K : PySem.W.Frag) (mg : Str → Option Value) (C : Nat → Addr) (I : Nat → DA) (i : Nat) : Prop where
  ox : OexC K (C i)
  gl : mg (nmOf i) = some (.ref (C i))
  is : IsC K (C i)
  ex : ∀ j, j < 4 → PySem.W.exmOne K (.ref (C i)) (.ref (C j)) = some (decide (i = j))
  noA : ∀ f ∈ allF, PySem.W.findIn K (.ref (C i)) f = some none
  ini : PySem.W.findIn K (.ref (C i)) "__init__" = some (some (.ref (I i).f))
  ti : PySem.W.typeIn K (.ref (I i).f) = some (.type "function")
  fn : FunD K "__init__" (nmOf i ++ ".__init__") (defArgs (iniOf i)) (defBody (iniOf i)) (defScope (iniOf i)) [] [] (I i).f (I i).fd
  b : Binds K (I i).fd ["self", fOf i] []
def spI1 (C : Addr) (f : Str) : Sp := fun vs H Q _ => ∃ (a : Addr) (y : V), vs = [.ref a, y] ∧ H a = some (exo a C none) ∧ ∀ dx, H dx = none → dx ≠ a → Q .non (upd (upd H dx (exd dx [(f, y)])) a (exo a C (some dx)))
section
variable {P : Program} {w : World} {K : PySem.W.Frag} {mg : Str → Option Value} {base : Heap} {C : Nat → Addr} {I : Nat → DA}
theorem ini1 {i : Nat} {f : Str} (E : Er P K mg C I i) (hf : fOf i = f) (ha : f ∈ allF) (S : FnScope (["self", f] : List Str) ["self", f] (defScope (iniOf i)))
    (tm : ∀ (cdv : Value) (A : Around) (outer : List Env) (s : Shared) (H : Hp) (E : XK), PSs (cxOf CX0 P w K mg base (["self", f] : List Str) (nmOf i ++ ".__init__") (defScope (iniOf i)) (I i).f cdv A outer s H E).nox (defBody (iniOf i)) (tOst K f (tVar 0) (tVar 1))) : FnOk P w K mg base CX0 1 (I i).f (I i).fd (["self", f] : List Str) (spI1 (C i) f) := by
  have F := E.fn
  refine ok0 F S (fun vs H Q E h => ?_) (fun cdv A outer s H vs Q E' hr h => ?_)
  · obtain ⟨a, y, rfl, _⟩ := h
    rfl
  · obtain ⟨a, y, rfl, e, k⟩ := h
    refine ⟨_, tm _ _ _ _ _ _, ?_⟩
    exact ⟨_, rfl, _, rfl, a, C i, rfl, E.ox, E.noA f ha, .inl ⟨e, fun dx n ne => k dx n ne⟩⟩
end
end Me
set_option maxHeartbeats 8000000
namespace Me
open PySem L2
theorem PS.imp {X : Cx} {st : Stmt} {t t' : TS} (h : PS X st t) (i : ∀ D σ H, t' D σ H → t D σ H) : PS X st t' := ⟨fun pins s σ H D I q => h.run pins s σ H D I (i D σ H q)⟩
theorem ne_none {H : Hp} {a b : Addr} {o : HO} (h' : H a = none) (h : H b = some o) : b ≠ a := ne_of_none h h'
theorem heap1 {H : Hp} {a dx : Addr} {o1 o2 o3 o : HO} (ha : H a = none) (hd : dx ≠ a) : upd (del (upd (upd (upd H a o1) dx o2) a o3) a) dx o = upd H dx o := by
  funext b
  by_cases h1 : b = dx
  · subst h1; rw [upd_same, upd_same]
  · rw [upd_ne h1, upd_ne h1]
    by_cases h2 : b = a
    · subst h2; rw [del_same, ha]
    · rw [del_ne h2, upd_ne h2, upd_ne h1, upd_ne h2]
/-- what a raise of C(v) asks, v at hand -/
def thrK (C : Addr) (f : Str) (W : WX) (σ : L2.St) (v : V) (H1 : Hp) : Prop := ([v] : List V).length ≤ 1000 ∧ ∀ a, H1 a = none → spI1 C f (.ref a :: ([v] ++ [])) (upd H1 a (exo a C none))
  (fun u H2 => u = .non ∧ ∃ (d : Addr) (fs : List (Str × V)), H2 a = some (exo a C (some d)) ∧ H2 d = some (exd d fs) ∧ H1 d = none ∧ W (.ref C) (some d) σ (upd (del H2 a) d (.xd fs))) (fun _ _ _ => False)
theorem thr_ok {C : Addr} {f : Str} {W : WX} {σ : L2.St} {v : V} {H1 : Hp} (q : ∀ d, H1 d = none → W (.ref C) (some d) σ (upd H1 d (.xd [(f, v)]))) : thrK C f W σ v H1 := by
  refine ⟨by show 1 ≤ 1000; decide, fun a na => ⟨a, v, rfl, upd_same, fun dx hd ne => ⟨rfl, dx, [(f, v)], ?_, ?_, ?_, ?_⟩⟩⟩
  · exact upd_same
  · rw [upd_ne ne, upd_same]
  · rw [upd_ne ne] at hd; exact hd
  · rw [heap1 na ne]
    rw [upd_ne ne] at hd
    exact q dx hd
def tThr (C : Addr) (f : Str) (W : WX) (ta : TE) : TS := fun _ σ H => ta σ H fun v H1 => thrK C f W σ v H1
section
variable {X : Cx} {C : Nat → Addr} {I : Nat → DA} {i : Nat} {x f g : Str} {W : WX} {p pos pos2 : Pos} {a b : Expr}
/-- raise C(v) -/
theorem ps_thr {ta : TE} (E : Er X.prog X.K X.mg C I i) (hf : fOf i = f) (hx : nmOf i = x) (hc : X.calm = true) (G : FnOk X.prog X.w X.K X.mg X.base CX0 1 (I i).f (I i).fd (["self", f] : List Str) (spI1 (C i) f)) (hr : Room 2 X.A) (tk : Takes X W) (ha : PE X a ta) (hg : Gl X x)
    (hdb : (x == ("__debug__" : Str)) = false := by decide) (hs : starEach [a] X.env = [(false, eval a X.env)] := by rfl) :
    PS X (.Raise (some (.Call (.Name x p) [a] [] pos)) none pos2) (tThr (C i) f W ta) := by
  subst hx
  have bd := E.b
  rw [hf] at bd
  refine PS.imp (ps_raise hc tk (pmk_oex (dvs := []) E.ox E.ini E.ti G hr bd .nil pass0 hg E.gl (pa_cons ha pa_nil hs) hdb hs rfl)) fun D σ H q => ?_
  exact q
end
/-! ### several except clauses with names -/
abbrev HdT : Type := Value × Nat × (Addr → Value → Option Addr → TS)
def wMA (K : PySem.W.Frag) (Wout : WX) (D : Ends) : List HdT → WX
  | [] => Wout
  | (c, i, ts) :: r => fun cls d σ H => ∃ b, PySem.W.exmOne K cls c = some b ∧ (b = true → ∀ a, H a = none → ts a cls d { nx := fun σ' H' => D.nx (σ'.set i none) H', rt := D.rt, bk := fun σ' H' => D.bk (σ'.set i none) H', ct := fun σ' H' => D.ct (σ'.set i none) H' } (σ.set i (some (.ref a))) H) ∧
    (b = false → wMA K Wout D r cls d σ H)
inductive HdsA (X : Cx) : List ExceptHandler → List HdT → Prop
  | nil : HdsA X [] []
  | cons {x n : Str} {i : Nat} {c : Value} {ts : Addr → Value → Option Addr → TS} {b₀ : Stmt} {suite : List Stmt} {np pos' : Pos} {hds : List ExceptHandler} {l : List HdT} (hi : X.N[i]? = some n) (hln : X.env.kindOf n = some .local) (hc : Names X x c)
      (hsu : ∀ (a : Addr) (oe : Obj) (cls : Value) (d : Option Addr) (pn : List (Addr × Obj)), Zc cls d oe → (∃ vs, oe.data = .fields vs) → PSs (X.suite a ((a, oe) :: pn)) (b₀ :: suite) (ts a cls d)) (r : HdsA X hds l) :
      HdsA X (.ExceptHandler (some (.Name x np)) (some n) (b₀ :: suite) pos' :: hds) ((c, i, ts) :: l)
section
variable {X : Cx} {body : List Stmt} {h₀ : ExceptHandler} {hds : List ExceptHandler} {l : List HdT} {pos : Pos} {tb : WX → TS} {Wout : WX}
theorem ps_try_manyA (hs : X.stack = X.env :: X.outer) (hf : X.env.frame = some X.env.locals) (hN : X.N.Nodup) (tk : Takes X Wout)
    (hb : ∀ (W : WX) (pn : List (Addr × Obj)) (xe : Value → Shared → Prop), Takes (X.tr pn xe) W → PassesOwn (model X.prog X.w) X.A X.env xe → PSs (X.tr pn xe) body (tb W))
    (hh : HdsA X (h₀ :: hds) l) : PS X (.Try body (h₀ :: hds) [] [] pos) (fun D σ H => tb (wMA X.K Wout D l) D σ H) := by
  refine ⟨fun pins s σ H D I h => ?_⟩
  have ok := I.ok
  have hfr : X.A.frames = some (X.env :: X.outer) := by rw [ok.frames, hs]
  refine wpAny_Try_except ?_
  refine wpAny_mono ((hb (wMA X.K Wout D l) (X.pn ++ pins) (fun e s₁ => wpAny (model X.prog X.w) X.A (noteFrame e X.env) (fun _ s₂ => wpAny (model X.prog X.w) X.A (setFlight e none) (fun _ s₃ =>
    wpAny (model X.prog X.w) X.A (handleBy e X.env (h₀ :: hds)) (SP X pins D) X.xe s₃) X.xe s₂) X.xe s₁) (fun u s' xx => ?_) PassesOwn.looking).run [] s σ H D (I.toTry _) h) (fun f s1 hsp => ?_) (fun e s1 he => he)
  · -- the catch
    obtain ⟨a, B, sI, pins', σ', H', cls, d, rfl, J', nb, up, sky, na, os, ag, w⟩ := xx
    have J : Inv X pins σ' H' sI := J'.ofTry ok
    have sky' : Sky B (X.env :: X.outer) a (Zc cls d) X.env.locals s'.heap := by rw [← hs]; exact sky
    show wpAny (model X.prog X.w) X.A (noteFrame (.ref a) X.env) _ _ _
    refine Sky.land Zc.steady hfr hf sky' fun h3 fl3 up3 => ?_
    have J3 : Inv X pins σ' H' { s' with heap := h3 } := J.landed nb fl3.1 (up.trans up3) os ag
    obtain ⟨oe3, vs3, he3, hz3, hd3⟩ := fl3.there
    have notFr : ∀ {h : Heap} {o : Obj} {vs : Array Value}, h.FunFrames B (X.env :: X.outer) → h.get? a = some o → o.data = .fields vs → a ∉ frs (X.env :: X.outer) := fun {h o vs} ff e dd hm => by
      obtain ⟨_, o', e', hnf⟩ := ff.mem hm
      rw [e] at e'; cases e'
      exact hnf _ dd
    have nfr := notFr fl3.2.2.1 he3 hd3
    have nL : a ≠ X.env.locals := fun z => nfr (List.mem_filterMap.mpr ⟨X.env, List.mem_cons_self, by rw [hf, z]⟩)
    have nF : a ∉ X.fs := fun hm => by
      obtain ⟨e, he, q⟩ := List.mem_filterMap.mp hm
      exact nfr (List.mem_filterMap.mpr ⟨e, List.mem_cons_of_mem _ he, q⟩)
    have S3 := J3.suite he3 hd3 na nL nF
    have go : ∀ {hds' : List ExceptHandler} {l' : List HdT}, HdsA X hds' l' → wMA X.K Wout D l' cls d σ' H' →
        wpAny (model X.prog X.w) X.A (handleBy (.ref a) X.env hds') (SP X pins D) X.xe { s' with heap := h3 } := by
      intro hds' l' hk
      induction hk with
      | nil =>
        intro w
        refine wpAny_handleBy_nil ?_
        obtain ⟨k1, k2, k3, oe, vs, T, oT, ts', he, hz, hd, h1, hr⟩ := id fl3
        unfold PySem.passOn
        refine wpAny_bind (wpAny_field he hd h1 ?_)
        rw [if_neg (show ¬ ((Value.ref T == Value.none) = true) from by simp)]
        have fin : wpAny (model X.prog X.w) X.A (setFlight (.ref a) X.env.frame) (fun _ s4 => wpAny (model X.prog X.w) X.A (throw (.ref a) : Sem Flow) (SP X pins D) X.xe s4) X.xe { s' with heap := h3 } := by
          rw [hf]
          refine HandSPX.setFlight_upZ fl3 fun h4 hh4 up4 => wpAny_throw (tk _ _ ?_)
          exact ⟨a, B, sI, pins, σ', H', cls, d, rfl, J, nb, (up.trans up3).trans up4, .inr (.inr (by rw [hs]; exact hh4)), na, os, ag, w⟩
        first
          | exact wpAny_bind (wpAny_pure (wpAny_bind fin))
          | exact wpAny_bind fin
      | @cons x n i c ts b₀ suite np pos' hds2 l2 hi hln hc hsu r ih =>
        intro w
        obtain ⟨b, hb1, hyes, hno⟩ := w
        refine wpAny_handleBy_cons (codeAny_handlers_test ?_) (by intro q; cases q)
        have LT : PySem.W.Looks (model X.prog X.w) h3 (typeOf (.ref a)) cls := fun A Q E s k q => wpAny_typeOf_ref (k _ _ he3) (by rw [hz3.1]; exact q)
        have LM := PySem.W.exm_one (M := model X.prog X.w) (J3.kIn) LT hb1
        have test : ∀ {Q : Value → Shared → Prop} {E : Value → Shared → Prop}, Q c { s' with heap := h3 } → wpAny (model X.prog X.w) (X.A.mark (some (.ref a))) (eval (.Name x np) X.env) Q E { s' with heap := h3 } := fun {Q E} q => by
          obtain ⟨hg, hdbg, hm | ⟨hm, hv, hnn⟩⟩ := hc
          · exact ld_glob (X := X.suite a ((a, oe3) :: (X.pn ++ pins))) S3 hg hm q hdbg
          · exact ld_blt (X := X.suite a ((a, oe3) :: (X.pn ++ pins))) S3 hg hm hv q hnn hdbg
        refine test (LM.here ?_)
        cases b with
        | true =>
          refine codeAny_handlers_suite_as ?_
          refine HandSPX.lands_againZ fl3 fun h4 fl4 up4 => ?_
          have J4 : Inv X pins σ' H' { s' with heap := h4 } := J.landed nb fl4.1 ((up.trans up3).trans up4) os ag
          obtain ⟨oe4, vs4, he4, hz4, hd4⟩ := fl4.there
          have S4 := J4.suite he4 hd4 na nL nF
          refine store_ok (X := X.suite a ((a, oe4) :: (X.pn ++ pins))) (v := .ref a) S4 hN hi (Or.inl hln) rfl (fun s5 S5 => ?_) (.inr hln)
          refine wpAny_mono ((hsu a oe4 cls d (X.pn ++ pins) hz4 ⟨_, hd4⟩).run [] s5 _ H' _ S5 (hyes rfl a na)) (fun f s6 hsp => ?_) (fun _ _ z => False.elim z)
          have end_ : ∀ {σ6 : St} {H6 : Hp} {Q : Shared → Prop}, Inv (X.suite a ((a, oe4) :: (X.pn ++ pins))) [] σ6 H6 s6 → (∀ s7, Inv X pins (σ6.set i none) H6 s7 → Q s7) →
              wpAny (model X.prog X.w) X.A (do bindName X.env n .none; unbindBehindTheSuite X.env n pos') (fun _ s7 => Q s7) X.xe s6 := fun {σ6 H6 Q} S6 hq => gone_ok (S6.unsuite ok) hN hi hln hq
          cases f with
          | next =>
            obtain ⟨σ6, H6, S6, q6⟩ := hsp
            exact end_ S6 fun s7 J7 => ⟨_, _, J7, q6⟩
          | brk =>
            obtain ⟨σ6, H6, S6, q6⟩ := hsp
            exact end_ S6 fun s7 J7 => ⟨_, _, J7, q6⟩
          | cont =>
            obtain ⟨σ6, H6, S6, q6⟩ := hsp
            exact end_ S6 fun s7 J7 => ⟨_, _, J7, q6⟩
          | ret u =>
            obtain ⟨v6, σ6, H6, S6, r6, q6⟩ := hsp
            exact end_ S6 fun s7 J7 => ⟨_, _, _, J7, r6, q6⟩
        | false =>
          show wpAny _ X.A (handleBy (.ref a) X.env hds2) _ _ _
          exact ih (hno rfl)
    exact go hh w
  · cases f with
    | next =>
      obtain ⟨σ', H', J', q⟩ := hsp
      exact wpAny_execs_nil ⟨σ', H', J'.ofTry ok, q⟩
    | brk =>
      obtain ⟨σ', H', J', q⟩ := hsp
      exact ⟨σ', H', J'.ofTry ok, q⟩
    | cont =>
      obtain ⟨σ', H', J', q⟩ := hsp
      exact ⟨σ', H', J'.ofTry ok, q⟩
    | ret u =>
      obtain ⟨v, σ', H', J', r, q⟩ := hsp
      exact ⟨v, σ', H', J'.ofTry ok, r, q⟩
end
end Me
set_option maxHeartbeats 8000000
namespace Me
open PySem L2
/-- a def whose last parameter has None ahead -/
structure DfN (K : PySem.W.Frag) (mg : Str → Option Value) (x : Str) (st : Stmt) (ps : List Str) (d : DA) : Prop where
  fn : FunD K x x (defArgs st) (defBody st) (defScope st) [.non] [] d.f d.fd
  mg : mg x = some (.ref d.f)
  b : Binds K d.fd ps []
  bd : Binds K d.fd ps [.none]
theorem DfN.kp {K : PySem.W.Frag} {mg : Str → Option Value} {x : Str} {st : Stmt} {ps : List Str} {d : DA} (h : DfN K mg x st ps d) : PySem.W.keepIn K (.ref d.f) = true := h.fn.kp
structure Ad where
  C : Nat → Addr
  I : Nat → DA
  tc : Addr
  tp : Addr
  c_Number : Addr
  c_Lengths : Addr
  c_TightNode : Addr
  c_WideNode : Addr
  c_Plan : Addr
  c_Edition : Addr
  c_Draft : Addr
  c_Parse : Addr
  c_Nothing : Addr
  c_Bits : Addr
  c_Call : Addr
  c_Items : Addr
  c_Choice : Addr
  c_Row : Addr
  c_Door : Addr
  c_BodyNode : Addr
  m_Number_init : DA
  m_Lengths_init : DA
  m_TightNode_init : DA
  m_TightNode_begin : DA
  m_TightNode_owed : DA
  m_TightNode_feed : DA
  m_WideNode_init : DA
  m_WideNode_begin : DA
  m_WideNode_owed : DA
  m_WideNode_feed : DA
  m_Plan_init : DA
  m_Plan_node_of : DA
  m_Plan_made : DA
  m_Plan_same : DA
  m_Edition_init : DA
  m_Draft_init : DA
  m_Draft_as_bits : DA
  m_Draft_write : DA
  m_Parse_init : DA
  m_Parse_cut : DA
  m_Parse_number : DA
  m_Parse_value : DA
  m_Parse_integer : DA
  is_int : DA
  is_int_within : DA
  is_name : DA
  is_bits : DA
  how_many_integers : DA
  tight_code : DA
  bits_of : DA
  number_bits : DA
  is_simple : DA
  inner_kinds : DA
  called_names : DA
  reached_names : DA
  checked_calls : DA
  check_bodies : DA
  bodies_of : DA
  rooms_of : DA
  ended : DA
  number_node : DA
  first_threads : DA
  lack_of : DA
  fed : DA
  path_of : DA
  fed_all : DA
  are_whole : DA
  least_lack : DA
  check_parts : DA
  are_kinds : DA
  is_named_kind : DA
  check_rooms : DA
  taken_room : DA
  kind_name : DA
  written : DA
  check : DA
  read : DA
  read_first : DA
  first_end : DA
  is_value : DA
  _law_same : DA
  _law_start : DA
  _law_pull : DA
  _law_big : DA
  _law_binary : DA
  _law_code : DA
  _law_due : DA
  _law_told : DA
  _law_refused : DA
  _law_values_hold : DA
  _law_rows_hold : DA
  _law_fills : DA
  law : DA
structure Txt (P : Program) (K : PySem.W.Frag) (mg : Str → Option Value) (a : Ad) : Prop where
  er : ∀ i, i < 4 → Er P K mg a.C a.I i
  code : a.check_rooms.fd.code = .ref a.tc
  NO_BODY : ∃ t, mg "NO_BODY" = some (.int (-1) t)
  NEVER : ∃ t, mg "NEVER" = some (.int (-1) t)
  isinstance : mg "isinstance" = none
  int : mg "int" = none
  bool : mg "bool" = none
  str : mg "str" = none
  dict : mg "dict" = none
  list : mg "list" = none
  tuple : mg "tuple" = none
  len : mg "len" = none
  range : mg "range" = none
  all : mg "all" = none
  any : mg "any" = none
  enumerate : mg "enumerate" = none
  min : mg "min" = none
  max : mg "max" = none
  sorted : mg "sorted" = none
  sum : mg "sum" = none
  repr : mg "repr" = none
  Number : mg "Number" = some (.ref a.c_Number)
  Lengths : mg "Lengths" = some (.ref a.c_Lengths)
  TightNode : mg "TightNode" = some (.ref a.c_TightNode)
  WideNode : mg "WideNode" = some (.ref a.c_WideNode)
  Plan : mg "Plan" = some (.ref a.c_Plan)
  Edition : mg "Edition" = some (.ref a.c_Edition)
  Draft : mg "Draft" = some (.ref a.c_Draft)
  Parse : mg "Parse" = some (.ref a.c_Parse)
  Nothing : mg "Nothing" = some (.ref a.c_Nothing)
  Bits : mg "Bits" = some (.ref a.c_Bits)
  Call : mg "Call" = some (.ref a.c_Call)
  Items : mg "Items" = some (.ref a.c_Items)
  Choice : mg "Choice" = some (.ref a.c_Choice)
  Row : mg "Row" = some (.ref a.c_Row)
  Door : mg "Door" = some (.ref a.c_Door)
  BodyNode : mg "BodyNode" = some (.ref a.c_BodyNode)
  cl_Number : Cls K a.c_Number
  ty_Number : ∀ (H : Hp) (p dx : Addr) (fs : List (Str × V)), H p = some (.ins a.c_Number dx fs) → TyX K H (.ref p) (.ref a.c_Number)
  no_Number : ∀ f ∈ fields, NoAttr K a.c_Number f
  mk_Number : Mk K a.c_Number a.m_Number_init.f
  cl_Lengths : Cls K a.c_Lengths
  ty_Lengths : ∀ (H : Hp) (p dx : Addr) (fs : List (Str × V)), H p = some (.ins a.c_Lengths dx fs) → TyX K H (.ref p) (.ref a.c_Lengths)
  no_Lengths : ∀ f ∈ fields, NoAttr K a.c_Lengths f
  mk_Lengths : Mk K a.c_Lengths a.m_Lengths_init.f
  cl_TightNode : Cls K a.c_TightNode
  ty_TightNode : ∀ (H : Hp) (p dx : Addr) (fs : List (Str × V)), H p = some (.ins a.c_TightNode dx fs) → TyX K H (.ref p) (.ref a.c_TightNode)
  no_TightNode : ∀ f ∈ fields, NoAttr K a.c_TightNode f
  mk_TightNode : Mk K a.c_TightNode a.m_TightNode_init.f
  cl_WideNode : Cls K a.c_WideNode
  ty_WideNode : ∀ (H : Hp) (p dx : Addr) (fs : List (Str × V)), H p = some (.ins a.c_WideNode dx fs) → TyX K H (.ref p) (.ref a.c_WideNode)
  no_WideNode : ∀ f ∈ fields, NoAttr K a.c_WideNode f
  mk_WideNode : Mk K a.c_WideNode a.m_WideNode_init.f
  cl_Plan : Cls K a.c_Plan
  ty_Plan : ∀ (H : Hp) (p dx : Addr) (fs : List (Str × V)), H p = some (.ins a.c_Plan dx fs) → TyX K H (.ref p) (.ref a.c_Plan)
  no_Plan : ∀ f ∈ fields, NoAttr K a.c_Plan f
  mk_Plan : Mk K a.c_Plan a.m_Plan_init.f
  cl_Edition : Cls K a.c_Edition
  ty_Edition : ∀ (H : Hp) (p dx : Addr) (fs : List (Str × V)), H p = some (.ins a.c_Edition dx fs) → TyX K H (.ref p) (.ref a.c_Edition)
  no_Edition : ∀ f ∈ fields, NoAttr K a.c_Edition f
  mk_Edition : Mk K a.c_Edition a.m_Edition_init.f
  cl_Draft : Cls K a.c_Draft
  ty_Draft : ∀ (H : Hp) (p dx : Addr) (fs : List (Str × V)), H p = some (.ins a.c_Draft dx fs) → TyX K H (.ref p) (.ref a.c_Draft)
  no_Draft : ∀ f ∈ fields, NoAttr K a.c_Draft f
  mk_Draft : Mk K a.c_Draft a.m_Draft_init.f
  cl_Parse : Cls K a.c_Parse
  ty_Parse : ∀ (H : Hp) (p dx : Addr) (fs : List (Str × V)), H p = some (.ins a.c_Parse dx fs) → TyX K H (.ref p) (.ref a.c_Parse)
  no_Parse : ∀ f ∈ fields, NoAttr K a.c_Parse f
  mk_Parse : Mk K a.c_Parse a.m_Parse_init.f
  kt_Number_Nothing : PySem.W.kitOne K (.ref a.c_Number) (.ref a.c_Nothing) = some false
  kt_Number_Number : PySem.W.kitOne K (.ref a.c_Number) (.ref a.c_Number) = some true
  kt_Number_Bits : PySem.W.kitOne K (.ref a.c_Number) (.ref a.c_Bits) = some false
  kt_Number_Call : PySem.W.kitOne K (.ref a.c_Number) (.ref a.c_Call) = some false
  kt_Number_Items : PySem.W.kitOne K (.ref a.c_Number) (.ref a.c_Items) = some false
  kt_Number_Choice : PySem.W.kitOne K (.ref a.c_Number) (.ref a.c_Choice) = some false
  kt_Number_Row : PySem.W.kitOne K (.ref a.c_Number) (.ref a.c_Row) = some false
  kt_Number_Door : PySem.W.kitOne K (.ref a.c_Number) (.ref a.c_Door) = some false
  kt_Number_BodyNode : PySem.W.kitOne K (.ref a.c_Number) (.ref a.c_BodyNode) = some false
  kt_TightNode_BodyNode : PySem.W.kitOne K (.ref a.c_TightNode) (.ref a.c_BodyNode) = some false
  kt_WideNode_BodyNode : PySem.W.kitOne K (.ref a.c_WideNode) (.ref a.c_BodyNode) = some false
  m_Number_init : FunD K "__init__" "Number.__init__" (defArgs (inClass (top 28) 0)) (defBody (inClass (top 28) 0)) (defScope (inClass (top 28) 0)) [.non] [] a.m_Number_init.f a.m_Number_init.fd
  b_m_Number_init : Binds K a.m_Number_init.fd ["self", "low", "high", "width"] []
  bd_m_Number_init : Binds K a.m_Number_init.fd ["self", "low", "high", "width"] [.none]
  m_Lengths_init : FunD K "__init__" "Lengths.__init__" (defArgs (inClass (top 50) 0)) (defBody (inClass (top 50) 0)) (defScope (inClass (top 50) 0)) [] [] a.m_Lengths_init.f a.m_Lengths_init.fd
  b_m_Lengths_init : Binds K a.m_Lengths_init.fd ["self", "named", "count"] []
  m_TightNode_init : FunD K "__init__" "TightNode.__init__" (defArgs (inClass (top 60) 0)) (defBody (inClass (top 60) 0)) (defScope (inClass (top 60) 0)) [] [] a.m_TightNode_init.f a.m_TightNode_init.fd
  b_m_TightNode_init : Binds K a.m_TightNode_init.fd ["self", "low", "many"] []
  m_TightNode_begin : FunD K "begin" "TightNode.begin" (defArgs (inClass (top 60) 1)) (defBody (inClass (top 60) 1)) (defScope (inClass (top 60) 1)) [] [] a.m_TightNode_begin.f a.m_TightNode_begin.fd
  b_m_TightNode_begin : Binds K a.m_TightNode_begin.fd ["self", "left", "below"] []
  me_m_TightNode_begin : Meth K a.c_TightNode "begin" a.m_TightNode_begin.f
  m_TightNode_owed : FunD K "owed" "TightNode.owed" (defArgs (inClass (top 60) 2)) (defBody (inClass (top 60) 2)) (defScope (inClass (top 60) 2)) [] [] a.m_TightNode_owed.f a.m_TightNode_owed.fd
  b_m_TightNode_owed : Binds K a.m_TightNode_owed.fd ["self", "a", "b"] []
  me_m_TightNode_owed : Meth K a.c_TightNode "owed" a.m_TightNode_owed.f
  m_TightNode_feed : FunD K "feed" "TightNode.feed" (defArgs (inClass (top 60) 3)) (defBody (inClass (top 60) 3)) (defScope (inClass (top 60) 3)) [] [] a.m_TightNode_feed.f a.m_TightNode_feed.fd
  b_m_TightNode_feed : Binds K a.m_TightNode_feed.fd ["self", "left", "below", "a", "b", "bit"] []
  me_m_TightNode_feed : Meth K a.c_TightNode "feed" a.m_TightNode_feed.f
  m_WideNode_init : FunD K "__init__" "WideNode.__init__" (defArgs (inClass (top 61) 0)) (defBody (inClass (top 61) 0)) (defScope (inClass (top 61) 0)) [] [] a.m_WideNode_init.f a.m_WideNode_init.fd
  b_m_WideNode_init : Binds K a.m_WideNode_init.fd ["self", "low", "many", "width"] []
  m_WideNode_begin : FunD K "begin" "WideNode.begin" (defArgs (inClass (top 61) 1)) (defBody (inClass (top 61) 1)) (defScope (inClass (top 61) 1)) [] [] a.m_WideNode_begin.f a.m_WideNode_begin.fd
  b_m_WideNode_begin : Binds K a.m_WideNode_begin.fd ["self", "left", "below"] []
  me_m_WideNode_begin : Meth K a.c_WideNode "begin" a.m_WideNode_begin.f
  m_WideNode_owed : FunD K "owed" "WideNode.owed" (defArgs (inClass (top 61) 2)) (defBody (inClass (top 61) 2)) (defScope (inClass (top 61) 2)) [] [] a.m_WideNode_owed.f a.m_WideNode_owed.fd
  b_m_WideNode_owed : Binds K a.m_WideNode_owed.fd ["self", "a", "b"] []
  me_m_WideNode_owed : Meth K a.c_WideNode "owed" a.m_WideNode_owed.f
  m_WideNode_feed : FunD K "feed" "WideNode.feed" (defArgs (inClass (top 61) 3)) (defBody (inClass (top 61) 3)) (defScope (inClass (top 61) 3)) [] [] a.m_WideNode_feed.f a.m_WideNode_feed.fd
  b_m_WideNode_feed : Binds K a.m_WideNode_feed.fd ["self", "left", "below", "a", "b", "bit"] []
  me_m_WideNode_feed : Meth K a.c_WideNode "feed" a.m_WideNode_feed.f
  m_Plan_init : FunD K "__init__" "Plan.__init__" (defArgs (inClass (top 69) 0)) (defBody (inClass (top 69) 0)) (defScope (inClass (top 69) 0)) [] [] a.m_Plan_init.f a.m_Plan_init.fd
  b_m_Plan_init : Binds K a.m_Plan_init.fd ["self", "named", "count"] []
  m_Plan_node_of : FunD K "node_of" "Plan.node_of" (defArgs (inClass (top 69) 1)) (defBody (inClass (top 69) 1)) (defScope (inClass (top 69) 1)) [] [] a.m_Plan_node_of.f a.m_Plan_node_of.fd
  b_m_Plan_node_of : Binds K a.m_Plan_node_of.fd ["self", "name"] []
  me_m_Plan_node_of : Meth K a.c_Plan "node_of" a.m_Plan_node_of.f
  m_Plan_made : FunD K "made" "Plan.made" (defArgs (inClass (top 69) 2)) (defBody (inClass (top 69) 2)) (defScope (inClass (top 69) 2)) [] [] a.m_Plan_made.f a.m_Plan_made.fd
  b_m_Plan_made : Binds K a.m_Plan_made.fd ["self", "kind"] []
  me_m_Plan_made : Meth K a.c_Plan "made" a.m_Plan_made.f
  m_Plan_same : FunD K "same" "Plan.same" (defArgs (inClass (top 69) 3)) (defBody (inClass (top 69) 3)) (defScope (inClass (top 69) 3)) [] [] a.m_Plan_same.f a.m_Plan_same.fd
  b_m_Plan_same : Binds K a.m_Plan_same.fd ["self", "shape", "node"] []
  me_m_Plan_same : Meth K a.c_Plan "same" a.m_Plan_same.f
  m_Edition_init : FunD K "__init__" "Edition.__init__" (defArgs (inClass (top 82) 0)) (defBody (inClass (top 82) 0)) (defScope (inClass (top 82) 0)) [] [] a.m_Edition_init.f a.m_Edition_init.fd
  b_m_Edition_init : Binds K a.m_Edition_init.fd ["self", "kinds", "root", "count"] []
  m_Draft_init : FunD K "__init__" "Draft.__init__" (defArgs (inClass (top 91) 0)) (defBody (inClass (top 91) 0)) (defScope (inClass (top 91) 0)) [] [] a.m_Draft_init.f a.m_Draft_init.fd
  b_m_Draft_init : Binds K a.m_Draft_init.fd ["self", "plan"] []
  m_Draft_as_bits : FunD K "as_bits" "Draft.as_bits" (defArgs (inClass (top 91) 1)) (defBody (inClass (top 91) 1)) (defScope (inClass (top 91) 1)) [] [] a.m_Draft_as_bits.f a.m_Draft_as_bits.fd
  b_m_Draft_as_bits : Binds K a.m_Draft_as_bits.fd ["self"] []
  me_m_Draft_as_bits : Meth K a.c_Draft "as_bits" a.m_Draft_as_bits.f
  m_Draft_write : FunD K "write" "Draft.write" (defArgs (inClass (top 91) 2)) (defBody (inClass (top 91) 2)) (defScope (inClass (top 91) 2)) [] [] a.m_Draft_write.f a.m_Draft_write.fd
  b_m_Draft_write : Binds K a.m_Draft_write.fd ["self", "kind", "thing", "path"] []
  me_m_Draft_write : Meth K a.c_Draft "write" a.m_Draft_write.f
  m_Parse_init : FunD K "__init__" "Parse.__init__" (defArgs (inClass (top 97) 0)) (defBody (inClass (top 97) 0)) (defScope (inClass (top 97) 0)) [] [] a.m_Parse_init.f a.m_Parse_init.fd
  b_m_Parse_init : Binds K a.m_Parse_init.fd ["self", "plan", "text"] []
  m_Parse_cut : FunD K "cut" "Parse.cut" (defArgs (inClass (top 97) 1)) (defBody (inClass (top 97) 1)) (defScope (inClass (top 97) 1)) [] [] a.m_Parse_cut.f a.m_Parse_cut.fd
  b_m_Parse_cut : Binds K a.m_Parse_cut.fd ["self", "many"] []
  me_m_Parse_cut : Meth K a.c_Parse "cut" a.m_Parse_cut.f
  m_Parse_number : FunD K "number" "Parse.number" (defArgs (inClass (top 97) 2)) (defBody (inClass (top 97) 2)) (defScope (inClass (top 97) 2)) [] [] a.m_Parse_number.f a.m_Parse_number.fd
  b_m_Parse_number : Binds K a.m_Parse_number.fd ["self", "many"] []
  me_m_Parse_number : Meth K a.c_Parse "number" a.m_Parse_number.f
  m_Parse_value : FunD K "value" "Parse.value" (defArgs (inClass (top 97) 3)) (defBody (inClass (top 97) 3)) (defScope (inClass (top 97) 3)) [] [] a.m_Parse_value.f a.m_Parse_value.fd
  b_m_Parse_value : Binds K a.m_Parse_value.fd ["self", "kind"] []
  me_m_Parse_value : Meth K a.c_Parse "value" a.m_Parse_value.f
  m_Parse_integer : FunD K "integer" "Parse.integer" (defArgs (inClass (top 97) 4)) (defBody (inClass (top 97) 4)) (defScope (inClass (top 97) 4)) [] [] a.m_Parse_integer.f a.m_Parse_integer.fd
  b_m_Parse_integer : Binds K a.m_Parse_integer.fd ["self", "kind"] []
  me_m_Parse_integer : Meth K a.c_Parse "integer" a.m_Parse_integer.f
  is_int : Df K mg "is_int" (top 2) ["thing"] a.is_int
  is_int_within : Df K mg "is_int_within" (top 3) ["thing", "least", "most"] a.is_int_within
  is_name : Df K mg "is_name" (top 4) ["thing"] a.is_name
  is_bits : Df K mg "is_bits" (top 5) ["thing"] a.is_bits
  how_many_integers : Df K mg "how_many_integers" (top 8) ["number"] a.how_many_integers
  tight_code : Df K mg "tight_code" (top 9) ["many"] a.tight_code
  bits_of : Df K mg "bits_of" (top 10) ["number", "size"] a.bits_of
  number_bits : Df K mg "number_bits" (top 11) ["kind", "integer"] a.number_bits
  is_simple : Df K mg "is_simple" (top 32) ["thing"] a.is_simple
  inner_kinds : Df K mg "inner_kinds" (top 45) ["kind"] a.inner_kinds
  called_names : Df K mg "called_names" (top 46) ["kind"] a.called_names
  reached_names : Df K mg "reached_names" (top 47) ["calls", "name"] a.reached_names
  checked_calls : Df K mg "checked_calls" (top 48) ["named"] a.checked_calls
  check_bodies : Df K mg "check_bodies" (top 52) ["named", "count"] a.check_bodies
  bodies_of : Df K mg "bodies_of" (top 53) ["kind"] a.bodies_of
  rooms_of : Df K mg "rooms_of" (top 54) ["kind"] a.rooms_of
  ended : Df K mg "ended" (top 58) ["left", "below"] a.ended
  number_node : Df K mg "number_node" (top 70) ["kind"] a.number_node
  first_threads : Df K mg "first_threads" (top 73) ["node"] a.first_threads
  lack_of : Df K mg "lack_of" (top 74) ["thread"] a.lack_of
  fed : Df K mg "fed" (top 75) ["thread", "bit"] a.fed
  path_of : Df K mg "path_of" (top 76) ["stack"] a.path_of
  fed_all : Df K mg "fed_all" (top 77) ["threads", "bit"] a.fed_all
  are_whole : Df K mg "are_whole" (top 78) ["threads"] a.are_whole
  least_lack : Df K mg "least_lack" (top 79) ["threads"] a.least_lack
  check_parts : Df K mg "check_parts" (top 83) ["kinds", "root", "count"] a.check_parts
  are_kinds : Df K mg "are_kinds" (top 84) ["thing"] a.are_kinds
  is_named_kind : Df K mg "is_named_kind" (top 85) ["thing"] a.is_named_kind
  check_rooms : Df K mg "check_rooms" (top 86) ["plan", "reached"] a.check_rooms
  taken_room : Df K mg "taken_room" (top 87) ["plan", "name"] a.taken_room
  kind_name : Df K mg "kind_name" (top 88) ["edition", "kind"] a.kind_name
  written : DfN K mg "written" (top 90) ["edition", "value", "kind"] a.written
  check : Df K mg "check" (top 92) ["is_right", "path"] a.check
  read : DfN K mg "read" (top 99) ["edition", "bits", "kind"] a.read
  read_first : DfN K mg "read_first" (top 100) ["edition", "bits", "kind"] a.read_first
  first_end : Df K mg "first_end" (top 101) ["node", "bits"] a.first_end
  is_value : DfN K mg "is_value" (top 103) ["edition", "thing", "kind"] a.is_value
  _law_same : Df K mg "_law_same" (top 105) ["_law_told_here", "_law_due_here"] a._law_same
  _law_start : Df K mg "_law_start" (top 106) ["_law_script"] a._law_start
  _law_pull : Df K mg "_law_pull" (top 107) ["_law_state", "_law_many"] a._law_pull
  _law_big : Df K mg "_law_big" (top 108) ["_law_state", "_law_many"] a._law_big
  _law_binary : Df K mg "_law_binary" (top 109) ["_law_number", "_law_many"] a._law_binary
  _law_code : Df K mg "_law_code" (top 110) ["_law_many", "_law_width", "_law_number"] a._law_code
  _law_due : Df K mg "_law_due" (top 111) ["_law_many", "_law_width", "_law_bits"] a._law_due
  _law_told : Df K mg "_law_told" (top 112) ["_law_made", "_law_bits", "_law_low"] a._law_told
  _law_refused : Df K mg "_law_refused" (top 113) ["_law_made", "_law_value"] a._law_refused
  _law_values_hold : Df K mg "_law_values_hold" (top 114) ["_law_state", "_law_made", "_law_low", "_law_many", "_law_width"] a._law_values_hold
  _law_rows_hold : Df K mg "_law_rows_hold" (top 115) ["_law_state", "_law_made", "_law_low", "_law_many", "_law_width"] a._law_rows_hold
  _law_fills : Df K mg "_law_fills" (top 116) ["_law_made", "_law_low", "_law_many"] a._law_fills
  law : Df K mg "law" (top 117) ["_law_script"] a.law
end Me
local macro_rules | `(tactic| walk_at "kb") => `(tactic| first | with_reducible exact Me.kb_NoneType_int | with_reducible exact Me.kb_NoneType_bool | with_reducible exact Me.kb_NoneType_str | with_reducible exact Me.kb_NoneType_dict | with_reducible exact Me.kb_NoneType_list | with_reducible exact Me.kb_NoneType_tuple | with_reducible exact Me.kb_bool_int | with_reducible exact Me.kb_bool_bool | with_reducible exact Me.kb_bool_str | with_reducible exact Me.kb_bool_dict | with_reducible exact Me.kb_bool_list | with_reducible exact Me.kb_bool_tuple | with_reducible exact Me.kb_int_int | with_reducible exact Me.kb_int_bool | with_reducible exact Me.kb_int_str | with_reducible exact Me.kb_int_dict | with_reducible exact Me.kb_int_list | with_reducible exact Me.kb_int_tuple | with_reducible exact Me.kb_str_int | with_reducible exact Me.kb_str_bool | with_reducible exact Me.kb_str_str | with_reducible exact Me.kb_str_dict | with_reducible exact Me.kb_str_list | with_reducible exact Me.kb_str_tuple | with_reducible exact Me.kb_tuple_int | with_reducible exact Me.kb_tuple_bool | with_reducible exact Me.kb_tuple_str | with_reducible exact Me.kb_tuple_dict | with_reducible exact Me.kb_tuple_list | with_reducible exact Me.kb_tuple_tuple | with_reducible exact Me.kb_list_int | with_reducible exact Me.kb_list_bool | with_reducible exact Me.kb_list_str | with_reducible exact Me.kb_list_dict | with_reducible exact Me.kb_list_list | with_reducible exact Me.kb_list_tuple | with_reducible exact Me.kb_dict_int | with_reducible exact Me.kb_dict_bool | with_reducible exact Me.kb_dict_str | with_reducible exact Me.kb_dict_dict | with_reducible exact Me.kb_dict_list | with_reducible exact Me.kb_dict_tuple)
local macro_rules | `(tactic| walk_at "hp") => `(tactic| first | with_reducible assumption | with_reducible exact L2.upd_same | ((with_reducible refine' Me.upd_get ?n ?h); (case h => walk_at "hp"); (case n => walk_at "ne")) | ((with_reducible refine' Me.Went.get ?w ?n ?h); (case w => with_reducible assumption); (case h => walk_at "hp"); (case n => walk_at "ne")))
local macro_rules | `(tactic| walk_at "ne") => `(tactic| first | with_reducible assumption | ((with_reducible refine Ne.symm ?_); with_reducible assumption) | ((with_reducible refine' Me.ne_none ?n ?h); (case n => with_reducible assumption); (case h => walk_at "hp")) | ((with_reducible refine' Ne.symm (Me.ne_none ?n ?h)); (case n => with_reducible assumption); (case h => walk_at "hp")))
local macro_rules | `(tactic| walk_at "side") => `(tactic| first | rfl | assumption | omega | decide | (constructor <;> first | rfl | assumption | omega | decide) | (refine ⟨?_, ?_, ?_⟩ <;> first | omega | decide) | (refine Or.inl ⟨?_, ?_⟩ <;> first | omega | decide) | (refine Or.inr ⟨?_, ?_⟩ <;> first | omega | decide))
local macro_rules | `(tactic| walk_at "go1") => `(tactic| first
  | with_reducible refine Me.i_seq ?_ | with_reducible refine Me.i_var rfl ?_ | with_reducible refine Me.i_c ?_ | with_reducible refine Me.i_op ?_ | with_reducible refine Me.i_cons ?_ | with_reducible refine Me.i_nil ?_
  | with_reducible refine Me.i_cb ?_ | with_reducible refine Me.i_call ?_ | with_reducible refine Me.i_asg ?_ | with_reducible refine Me.i_gname ?_ | with_reducible refine Me.i_gsub ?_ | with_reducible refine Me.i_ret ?_ | with_reducible refine Me.i_retN ?_
  | with_reducible refine Me.i_drop ?_ | with_reducible refine Me.i_ifS ?_ | with_reducible refine Me.i_if ?_ | with_reducible refine Me.i_and ?_ | with_reducible refine Me.i_or ?_ | with_reducible refine Me.i_not ?_ | with_reducible refine Me.i_test ?_ | with_reducible refine Me.i_tB ?_
  | with_reducible refine Me.i_andV ?_ | with_reducible refine Me.i_orV ?_ | with_reducible refine Me.i_notV ?_ | with_reducible refine Me.i_next ?_ | with_reducible refine Me.i_un ?_ | with_reducible refine Me.i_lst ?_ | with_reducible refine Me.i_tup ?_ | with_reducible refine Me.i_dnew (fun _ _ => ?_)
  | with_reducible refine Me.i_rI0 ?_ | ((with_reducible refine Me.i_rI ?_ ?_); (walk_at "side")) | with_reducible refine Me.i_rU ?_ | with_reducible refine Me.i_rEq rfl ?_ | with_reducible refine Me.i_rNe rfl ?_
  | ((with_reducible refine' Me.i_ixl ?h ?e ?q); (case h => walk_at "hp"); (case e => rfl)) | ((with_reducible refine' Me.i_ixt ?h ?e ?q); (case h => walk_at "hp"); (case e => rfl)) | ((with_reducible refine' Me.i_setl ?h ?e ?q); (case h => walk_at "hp"); (case e => rfl))
  | with_reducible refine Me.i_bl ?_
  | with_reducible refine L2.iteT ?_ | with_reducible refine L2.iteF ?_
  | ((with_reducible refine' ⟨_, _, rfl, Or.inl (L2.SqL.of ?h), ?q⟩); (case h => walk_at "hp"))
  | ((with_reducible refine' ⟨_, _, rfl, Or.inr (L2.SqT.of ?h), ?q⟩); (case h => walk_at "hp"))
  | ((with_reducible refine' Me.i_isi ?t ?e ?q); (case t => walk_at "ty"); (case e => walk_at "kb"))
  | (with_reducible refine Or.inl ⟨_, rfl, ?_⟩)
  | ((with_reducible refine And.intro (a := List.length _ ≤ PySem.sizeLine) ?s (fun _ _ => ?q)); (case s => (simp only [List.length_cons, List.length_nil]; decide))))
local macro_rules | `(tactic| walk_at "ty") => `(tactic| first | exact L2.TyX.base L2.TyOf.non | exact L2.TyX.base (L2.TyOf.bl _) | exact L2.TyX.base (L2.TyOf.int _) | exact L2.TyX.base (L2.TyOf.str _) | ((refine' L2.TyX.base (L2.TyOf.tup ?h)); (case h => walk_at "hp")) | ((refine' L2.TyX.base (L2.TyOf.lst ?h)); (case h => walk_at "hp")) | ((refine' L2.TyX.base (L2.TyOf.dK ?h)); (case h => walk_at "hp")))
local macro_rules | `(tactic| walk_at "go") => `(tactic| repeat (walk_at "go1"))
set_option maxHeartbeats 8000000
namespace Me
open PySem L2


abbrev Same (H H' : Hp) : Prop := ∀ b o, H b = some o → H' b = some o
/-! ### things -/
inductive Th (H : Hp) : V → Prop where
  | non : Th H .non
  | bl (b : Bool) : Th H (.bl b)
  | int (i : Int) : Th H (.int i)
  | str (x : Str) : Th H (.str x)
  | tup {a : Addr} {xs : List V} (h : H a = some (.tup xs)) : Th H (.ref a)
  | lst {a : Addr} {xs : List V} (h : H a = some (.lst xs)) : Th H (.ref a)
  | dK {a : Addr} {kvs : List (Key × V)} (h : H a = some (.dK kvs)) : Th H (.ref a)
theorem Th.keep {H H' : Hp} {v : V} (h : Th H v) (s : ∀ b o, (∀ ps, o ≠ .tbl ps) → H b = some o → H' b = some o) : Th H' v := by
  cases h with
  | non => exact .non
  | bl b => exact .bl b
  | int i => exact .int i
  | str x => exact .str x
  | tup h => exact .tup (s _ _ (fun _ z => by cases z) h)
  | lst h => exact .lst (s _ _ (fun _ z => by cases z) h)
  | dK h => exact .dK (s _ _ (fun _ z => by cases z) h)
theorem Th.same {H H' : Hp} {v : V} (h : Th H v) (s : Same H H') : Th H' v := h.keep fun b o _ e => s b o e
def isI : V → Bool
  | .int _ => true
  | _ => false
def withinV : V → Int → Int → Bool
  | .int i, l, m => decide (l ≤ i) && decide (i ≤ m)
  | _, _, _ => false
theorem i_yes {c : Bool} {A B : Prop} (h : c = true) (q : A) : if c = true then A else B := by rw [if_pos h]; exact q
theorem i_no {c : Bool} {A B : Prop} (h : c = false) (q : B) : if c = true then A else B := by rw [h, if_neg Bool.false_ne_true]; exact q
theorem i_m1 {r : V → List V → Hp → VK → Prop} {to te : TE} {σ : L2.St} {H : Hp} {Q : VK} (q : to σ H fun x H1 => (∃ a, x = .str a) ∧ te σ H1 fun y H2 => r x [y] H2 Q) : tM1 r to te σ H Q := q
/-! ### texts of bits -/
def bitB (c : Nat) : Bool := decide (c = 48) || decide (c = 49)
def bitsS (z : Str) : Bool := z.cps.toList.all bitB
def bitsV : V → Bool
  | .str z => bitsS z
  | _ => false
theorem goes01 (c : Nat) : (Str.ofString "01").cps.contains c = bitB c := by
  have e : (Str.ofString "01").cps = #[48, 49] := by decide +kernel
  rw [e]
  unfold bitB
  by_cases h : c = 48
  · subst h; simp
  · by_cases h2 : c = 49
    · subst h2; simp
    · rw [decide_eq_false h, decide_eq_false h2]
      simp [h, h2]
theorem strip01 (z : Str) : decide (V.str (Txt.stripChars z "01") = V.str "") = bitsS z := by
  unfold bitsS
  have eg : (Str.ofString "01").cps.contains = bitB := funext goes01
  have e1 : Txt.stripChars z "01" = Builtin.Str.strSub z (stripLo bitB true z) (stripHi bitB true z (stripLo bitB true z)) := by
    rw [← eg]; exact PyProof.Rows.stripBy_eq _ _ _ _
  obtain ⟨l1, l2, l3⟩ := PyProof.Rows.lo_facts bitB z
  obtain ⟨h1, h2, h3, h4⟩ := PyProof.Rows.hi_facts bitB z _ l1
  have len : (Txt.stripChars z "01").length = stripHi bitB true z (stripLo bitB true z) - stripLo bitB true z := by rw [e1]; exact size_strSub _ _ _ h2
  have at_ : ∀ k, k < z.length → (h : k < z.cps.toList.length) → z.cps.getD k 0 = z.cps.toList[k] := fun k hk h => by
    rw [← PyProof.Rows.getD_list]
    rw [List.getD, List.getElem?_eq_getElem h]; rfl
  have ln : z.cps.toList.length = z.length := by simp [Str.length]
  by_cases h : z.cps.toList.all bitB = true
  · rw [h]
    refine decide_eq_true ?_
    have all : ∀ k, k < z.length → bitB (z.cps.getD k 0) = true := fun k hk => by
      rw [at_ k hk (by omega)]
      exact List.all_eq_true.mp h _ (List.getElem_mem _)
    have lo : stripLo bitB true z = z.length := by
      rcases l3 with l3 | l3
      · exact l3
      · by_cases q : stripLo bitB true z < z.length
        · rw [all _ q] at l3; cases l3
        · omega
    have z0 : (Txt.stripChars z "01").length = 0 := by omega
    congr 1
    generalize Txt.stripChars z "01" = u at z0
    cases u with
    | mk c =>
      have : c = #[] := Array.eq_empty_of_size_eq_zero z0
      rw [this]; rfl
  · rw [Bool.eq_false_iff.mpr h]
    refine decide_eq_false fun q => h ?_
    have q := V.str.inj q
    have z0 : (Txt.stripChars z "01").length = 0 := by rw [q]; rfl
    refine List.all_eq_true.mpr fun c hc => ?_
    obtain ⟨k, hk, rfl⟩ := List.mem_iff_getElem.mp hc
    rw [← at_ k (by omega) hk]
    by_cases r : k < stripLo bitB true z
    · exact l2 k r
    · exact h3 k (by omega) (by omega)
/-- texts that are no longer than this law's -/
def Sh (v : V) : Prop := ∀ z, v = .str z → z.length ≤ 9000
section
variable {P : Program} {w : World} {K : PySem.W.Frag} {mg : Str → Option Value} {base : Heap} {a : Ad}
def spIsInt : Sp := fun vs H Q _ => ∃ x, vs = [x] ∧ Th H x ∧ Q (.bl (isI x)) H
theorem ok_is_int (T : Txt P K mg a) : FnOk P w K mg base CX0 1 a.is_int.f a.is_int.fd ["thing"] spIsInt := by
  have sc : FnScope ["thing"] ["thing"] (defScope (top 2)) := ⟨rfl, rfl, rfl, by decide +kernel, rfl, by decide +kernel, by decide +kernel⟩
  refine T.is_int.ok sc (fun vs H Q E h => ?_) (fun cdv A outer s H vs Q E hr h => ?_)
  · obtain ⟨x, rfl, _⟩ := h; rfl
  · obtain ⟨x, rfl, hx, k⟩ := h
    refine ⟨_, (pss_one (ps_ret (pe_and (pe_callB call_isi (by rfl) T.isinstance (by decide +kernel) (pa_cons (pv 0) (pa_cons (pe_bltn (v := .ty "int") (by rfl) T.int (by decide +kernel) rfl) pa_nil))) (pe_one (pe_not (pe_callB call_isi (by rfl) T.isinstance (by decide +kernel) (pa_cons (pv 0) (pa_cons (pe_bltn (v := .ty "bool") (by rfl) T.bool (by decide +kernel) rfl) pa_nil)))))))), ?_⟩
    cases hx <;> (walk_at "go"; exact k)
def spWithin : Sp := fun vs H Q _ => ∃ (x : V) (l m : Int), vs = [x, .int l, .int m] ∧ Th H x ∧ Q (.bl (withinV x l m)) H
theorem ok_within (T : Txt P K mg a) : FnOk P w K mg base CX0 2 a.is_int_within.f a.is_int_within.fd ["thing", "least", "most"] spWithin := by
  have G_is_int : FnOk P w K mg base CX0 1 a.is_int.f a.is_int.fd ["thing"] spIsInt := ok_is_int T
  have sc : FnScope ["thing", "least", "most"] ["thing", "least", "most"] (defScope (top 3)) := ⟨rfl, rfl, rfl, by decide +kernel, rfl, by decide +kernel, by decide +kernel⟩
  refine T.is_int_within.ok sc (fun vs H Q E h => ?_) (fun cdv A outer s H vs Q E hr h => ?_)
  · obtain ⟨x, l, m, rfl, _⟩ := h; rfl
  · obtain ⟨x, l, m, rfl, hx, k⟩ := h
    refine ⟨_, (pss_one (ps_ret (pe_and (pe_call G_is_int (hr.mono (by first | decide | omega)) rfl T.is_int.mg T.is_int.kp T.is_int.b .nil pass0 (pa_cons (pv 0) pa_nil)) (pe_one (pe_chain op_le op_le (pv 1) (pv 0) (pv 2)))))), ?_⟩
    walk_at "go"
    refine ⟨x, rfl, hx, _, rfl, ?_⟩
    cases hx with
    | int i =>
      refine i_yes rfl ⟨_, rfl, _, rfl, _, _, rfl, rfl, _, rfl, ?_⟩
      refine i_itd (fun h1 => ?_) (fun h1 => ?_)
      · refine ⟨_, rfl, _, _, rfl, rfl, ?_⟩
        have e : withinV (.int i) l m = decide (i ≤ m) := by
          show (decide (l ≤ i) && decide (i ≤ m)) = _
          rw [decide_eq_true h1]; rfl
        rw [e] at k
        exact k
      · have e : withinV (.int i) l m = false := by
          show (decide (l ≤ i) && decide (i ≤ m)) = _
          rw [decide_eq_false h1]; rfl
        rw [e] at k
        exact k
    | _ => exact i_no rfl k
def spBits : Sp := fun vs H Q _ => ∃ x, vs = [x] ∧ Th H x ∧ Sh x ∧ Q (.bl (bitsV x)) H
theorem ok_bits (T : Txt P K mg a) : FnOk P w K mg base CX0 1 a.is_bits.f a.is_bits.fd ["thing"] spBits := by
  have sc : FnScope ["thing"] ["thing"] (defScope (top 5)) := ⟨rfl, rfl, rfl, by decide +kernel, rfl, by decide +kernel, by decide +kernel⟩
  refine T.is_bits.ok sc (fun vs H Q E h => ?_) (fun cdv A outer s H vs Q E hr h => ?_)
  · obtain ⟨x, rfl, _⟩ := h
    rfl
  · obtain ⟨x, rfl, hx, hz, k⟩ := h
    refine ⟨_, (pss_one (ps_ret (pe_and (pe_callB call_isi (by rfl) T.isinstance (by decide +kernel) (pa_cons (pv 0) (pa_cons (pe_bltn (v := .ty "str") (by rfl) T.str (by decide +kernel) rfl) pa_nil))) (pe_one (pe_cmpR op_eq (pe_m1 F.slot_str_strip F.type_str_strip mt_stripChars (pv 0) pe_str rfl rfl rfl) pe_str (nomark _)))))), ?_⟩
    cases hx with
    | str z =>
      walk_at "go"
      refine i_m1 ?_
      walk_at "go"
      refine ⟨⟨_, rfl⟩, _, _, rfl, rfl, Nat.le_trans (hz z rfl) (by decide), ?_⟩
      walk_at "go"
      have e := strip01 z
      have k : Q (V.bl (bitsS z)) H := k
      rw [← e] at k
      exact k
    | _ => (walk_at "go"; exact k)
end
end Me
set_option maxHeartbeats 8000000
namespace Me
open PySem L2


section
variable {K : PySem.W.Frag} {σ : L2.St} {H : Hp} {Q : VK}
theorem i_fld1 {i : Nat} {f : Str} {p C dx : Addr} {fs : List (Str × V)} {v : V} (e : σ[i]? = some (some (.ref p))) (h : H p = some (.ins C dx fs)) (c : Cls K C) (n : NoAttr K C f) (l : fs.lookup f = some v) (q : Q v H) : tFld K (tVar i) f σ H Q :=
  ⟨_, e, p, C, dx, fs, v, rfl, h, c, n, l, q⟩
theorem bits_nat {m : Nat} (h : 1 ≤ m) : Builtin.Int.intBits (m : Int) = m.log2 + 1 := by
  unfold Builtin.Int.intBits
  rw [if_neg (by simp; omega)]
  rfl
theorem i_bits1 {i m : Nat} (e : σ[i]? = some (some (.int (m : Int)))) (h : 1 ≤ m) (q : Q (.int ((m.log2 + 1 : Nat) : Int)) H) : tBits (tVar i) σ H Q :=
  ⟨_, e, _, rfl, by rw [bits_nat h]; exact q⟩
theorem shl_one (j : Nat) : (1 : Int) * 2 ^ ((j : Int)).toNat = ((2 ^ j : Nat) : Int) := by
  rw [Int.one_mul, Int.toNat_natCast]
  push_cast
  rfl
end
/-- a Number -/
def NumAt (C : Addr) (H : Hp) (p : Addr) (low high : Int) (w : Option Nat) : Prop := ∃ dx, H p = some (.ins C dx [("low", .int low), ("high", .int high), ("width", match w with | none => .non | some n => .int (n : Int))])
theorem NumAt.same {C : Addr} {H H' : Hp} {p : Addr} {low high : Int} {w : Option Nat} (h : NumAt C H p low high w) (s : Same H H') : NumAt C H' p low high w := by
  obtain ⟨dx, e⟩ := h
  exact ⟨dx, s _ _ e⟩
section
variable {P : Program} {w : World} {K : PySem.W.Frag} {mg : Str → Option Value} {base : Heap} {a : Ad}
def spMany (a : Ad) : Sp := fun vs H Q _ => ∃ p low high wd, vs = [.ref p] ∧ NumAt a.c_Number H p low high wd ∧ Q (.int (high - low + 1)) H
theorem ok_many (T : Txt P K mg a) : FnOk P w K mg base CX0 1 a.how_many_integers.f a.how_many_integers.fd ["number"] (spMany a) := by
  have sc : FnScope ["number"] ["number"] (defScope (top 8)) := ⟨rfl, rfl, rfl, by decide +kernel, rfl, by decide +kernel, by decide +kernel⟩
  refine T.how_many_integers.ok sc (fun vs H Q E h => ?_) (fun cdv A outer s H vs Q E hr h => ?_)
  · obtain ⟨p, l, h2, wd, rfl, _⟩ := h; rfl
  · obtain ⟨p, l, h2, wd, rfl, ⟨dx, e⟩, k⟩ := h
    refine ⟨_, (pss_one (ps_ret (pe_op op_add (pe_op op_sub (pe_fld (pv 0) rfl) (pe_fld (pv 0) rfl)) pe_int))), ?_⟩
    walk_at "go"
    refine i_fld1 rfl e T.cl_Number (T.no_Number _ (by decide +kernel)) rfl ?_
    walk_at "go"
    refine i_fld1 rfl e T.cl_Number (T.no_Number _ (by decide +kernel)) rfl ?_
    walk_at "go"
    exact k
def spTight : Sp := fun vs H Q _ => ∃ m : Nat, vs = [.int (m : Int)] ∧ 2 ≤ m ∧ m ≤ 2 ^ 60 ∧ ∀ p, H p = none → Q (.ref p) (upd H p (.tup [.int (m.log2 : Int), .int ((2 ^ (m.log2 + 1) : Nat) - m : Int)]))
theorem ok_tight (T : Txt P K mg a) : FnOk P w K mg base CX0 1 a.tight_code.f a.tight_code.fd ["many"] spTight := by
  have sc : FnScope ["many", "size"] ["many"] (defScope (top 9)) := ⟨rfl, rfl, rfl, by decide +kernel, rfl, by decide +kernel, by decide +kernel⟩
  refine T.tight_code.ok sc (fun vs H Q E h => ?_) (fun cdv A outer s H vs Q E hr h => ?_)
  · obtain ⟨m, rfl, _⟩ := h; rfl
  · obtain ⟨m, rfl, h1, h2, k⟩ := h
    refine ⟨_, (pss_cons (ps_set (i := 1) sc.nd rfl (by first | exact Or.inl rfl | exact Or.inr rfl) (pe_op op_sub (pe_bits (pv 0)) pe_int))
      (pss_one (ps_ret (pe_tup (pa_cons (pv 1) (pa_cons (pe_op op_sub (pe_op op_shl pe_int (pe_op op_add (pv 1) pe_int)) (pv 0)) pa_nil)))))), ?_⟩
    have hl : m.log2 < 61 := (Nat.log2_lt (by omega)).mpr (Nat.lt_of_le_of_lt h2 (by decide))
    walk_at "go"
    refine i_bits1 rfl (by omega) ?_
    refine i_c (i_rI0 ?_)
    have e : ((m.log2 + 1 : Nat) : Int) - 1 = (m.log2 : Int) := by omega
    rw [e]
    walk_at "go"
    have e2 : (1 : Int) * 2 ^ ((m.log2 : Int) + 1).toNat = ((2 ^ (m.log2 + 1) : Nat) : Int) := shl_one (m.log2 + 1)
    rw [e2]
    rename_i p np
    exact k p np
end
end Me
set_option maxHeartbeats 8000000
namespace Me
open PySem
/-! ### the bits of a number -/
def bitsL : Nat → Nat → List Nat
  | _, 0 => []
  | n, k + 1 => bitsL (n / 2) k ++ [48 + n % 2]
def bitS (n k : Nat) : Str := ⟨(bitsL n k).toArray⟩
theorem bitsL_len : ∀ (n k : Nat), (bitsL n k).length = k
  | _, 0 => rfl
  | n, k + 1 => by rw [bitsL, List.length_append, bitsL_len]; rfl
theorem bitS_len (n k : Nat) : (bitS n k).length = k := by
  show (bitsL n k).toArray.size = k
  rw [List.size_toArray, bitsL_len]
theorem bitsL_zero : ∀ k, bitsL 0 k = List.replicate k 48
  | 0 => rfl
  | k + 1 => by rw [bitsL, show 0 / 2 = 0 from rfl, bitsL_zero k, List.replicate_succ']
theorem bitsL_is : ∀ (n k : Nat), ∀ c ∈ bitsL n k, Bn.IsB c
  | _, 0, _, h => by cases h
  | n, k + 1, c, h => by
    rw [bitsL] at h
    rcases List.mem_append.mp h with h | h
    · exact bitsL_is _ _ c h
    · rw [List.mem_singleton.mp h]
      unfold Bn.IsB
      omega
theorem digitChar2 (d : Nat) (h : d < 2) : (Nat.digitChar d).toNat = 48 + d := by
  have : d = 0 ∨ d = 1 := by omega
  rcases this with rfl | rfl
  · rfl
  · rfl
/-- the digits of n, zeros ahead of them -/
theorem digits_bits : ∀ (k n : Nat), n < 2 ^ k → 1 ≤ k → ∃ z, bitsL n k = List.replicate z 48 ++ (Nat.toDigits 2 n).map Char.toNat ∧ z + (Nat.toDigits 2 n).length = k
  | 0, _, _, h => by omega
  | k + 1, n, h, _ => by
    by_cases h2 : n < 2
    · rw [Nat.toDigits_of_lt_base h2, bitsL, show n / 2 = 0 by omega, bitsL_zero]
      refine ⟨k, ?_, rfl⟩
      show List.replicate k 48 ++ [48 + n % 2] = List.replicate k 48 ++ [(Nat.digitChar n).toNat]
      rw [digitChar2 n h2, Nat.mod_eq_of_lt h2]
    · have hk : 1 ≤ k := by
        cases k with
        | zero => omega
        | succ k => omega
      obtain ⟨z, e1, e2⟩ := digits_bits k (n / 2) (by rw [Nat.pow_succ] at h; omega) hk
      rw [Nat.toDigits_of_base_le (by decide) (by omega), bitsL, e1]
      refine ⟨z, ?_, ?_⟩
      · rw [List.map_append, List.append_assoc]
        congr 2
        show [48 + n % 2] = [(Nat.digitChar (n % 2)).toNat]
        rw [digitChar2 _ (Nat.mod_lt _ (by decide))]
      · rw [List.length_append]
        show z + ((Nat.toDigits 2 (n / 2)).length + 1) = k + 1
        omega
theorem bits_str (a : Nat) : ∃ c r, ((Nat.toDigits 2 a).map Char.toNat) = c :: r ∧ Bn.IsB c := by
  have hk : a < 2 ^ (a + 1) := Nat.lt_of_lt_of_le Nat.lt_two_pow_self (Nat.pow_le_pow_right (by decide) (by omega))
  obtain ⟨z, e1, e2⟩ := digits_bits (a + 1) a hk (by omega)
  cases e : (Nat.toDigits 2 a).map Char.toNat with
  | nil =>
    exfalso
    have h1 := congrArg List.length e
    rw [List.length_map] at h1
    have h2 := PyProof.Rows.tDigits_len_ge 2 a
    simp only [List.length_nil] at h1
    omega
  | cons c r =>
    refine ⟨c, r, rfl, bitsL_is a (a + 1) c ?_⟩
    rw [e1, e]
    exact List.mem_append_right _ List.mem_cons_self
/-- f'{n:b}'.zfill(k) -/
theorem zfill_bits {n k : Nat} (h : n < 2 ^ k) (hk : 1 ≤ k) : Txt.zfill (binS n) (k : Int) = bitS n k := by
  obtain ⟨z, e1, e2⟩ := digits_bits k n h hk
  have len : (binS n).length = (Nat.toDigits 2 n).length := by
    show (((Nat.toDigits 2 n).map Char.toNat).toArray).size = _
    rw [List.size_toArray, List.length_map]
  unfold Txt.zfill
  by_cases c : (k : Int) ≤ ((binS n).length : Nat)
  · rw [if_pos c]
    have hz : z = 0 := by omega
    subst hz
    unfold bitS binS
    rw [e1]; rfl
  · rw [if_neg c]
    obtain ⟨c0, r, e3, hb⟩ := bits_str n
    have ec : (binS n).cps = (c0 :: r).toArray := by unfold binS; rw [e3]
    have more : (k : Int).toNat - (binS n).length = z := by omega
    rw [more]
    have zf : zfilled (binS n) z = Builtin.Str.padded (binS n) z 0 48 := by
      unfold zfilled
      rw [ec]
      unfold Bn.IsB at hb
      rcases hb with rfl | rfl <;> rfl
    rw [zf]
    unfold Builtin.Str.padded bitS
    rw [e1]
    congr 1
    apply Array.toList_inj.mp
    unfold binS
    simp
/-- what the bits say -/
theorem binNum_app (l : List Nat) (c : Nat) : Bn.binNum (l ++ [c]) = Bn.binNum l * 2 + Bn.bv c := by
  unfold Bn.binNum
  rw [List.foldl_append]; rfl
theorem binNum_bits : ∀ (k n : Nat), n < 2 ^ k → Bn.binNum (bitsL n k) = n
  | 0, n, h => by
    have : n = 0 := by simpa using h
    subst this; rfl
  | k + 1, n, h => by
    rw [bitsL, binNum_app, binNum_bits k (n / 2) (by rw [Nat.pow_succ] at h; omega)]
    unfold Bn.bv
    omega
theorem bitsL_top : ∀ (k n : Nat), bitsL n (k + 1) = (48 + n / 2 ^ k % 2) :: bitsL n k
  | 0, n => by simp [bitsL]
  | k + 1, n => by
    rw [bitsL, bitsL_top k (n / 2), Nat.div_div_eq_div_mul, ← Nat.pow_succ']
    rfl
end Me
set_option maxHeartbeats 8000000
namespace Me
open PySem L2


section
variable {P : Program} {w : World} {K : PySem.W.Frag} {mg : Str → Option Value} {base : Heap} {a : Ad}
theorem binS_len {n k : Nat} (h : n < 2 ^ k) (hk : 1 ≤ k) : (binS n).length ≤ k := by
  obtain ⟨z, _, e2⟩ := digits_bits k n h hk
  have len : (binS n).length = (Nat.toDigits 2 n).length := by
    show (((Nat.toDigits 2 n).map Char.toNat).toArray).size = _
    rw [List.size_toArray, List.length_map]
  omega
def spBitsOf : Sp := fun vs H Q _ => ∃ n k : Nat, vs = [.int (n : Int), .int (k : Int)] ∧ n < 2 ^ k ∧ 1 ≤ k ∧ k ≤ 100 ∧ Q (.str (bitS n k)) H
theorem ok_bits_of (T : Txt P K mg a) : FnOk P w K mg base CX0 1 a.bits_of.f a.bits_of.fd ["number", "size"] spBitsOf := by
  have sc : FnScope ["number", "size"] ["number", "size"] (defScope (top 10)) := ⟨rfl, rfl, rfl, by decide +kernel, rfl, by decide +kernel, by decide +kernel⟩
  refine T.bits_of.ok sc (fun vs H Q E h => ?_) (fun cdv A outer s H vs Q E hr h => ?_)
  · obtain ⟨n, k, rfl, _⟩ := h; rfl
  · obtain ⟨n, k, rfl, h1, h2, h3, q⟩ := h
    refine ⟨_, (pss_one (ps_ret (pe_m1 F.slot_str_zfill F.type_str_zfill mt_zfill (pe_joined1 (pe_fmtB (pv 0))) (pv 1) rfl rfl rfl))), ?_⟩
    walk_at "go"
    refine i_m1 ?_
    refine ⟨_, rfl, n, rfl, Nat.le_trans (binS_len h1 h2) (Nat.le_trans h3 (by decide)), ⟨_, rfl⟩, ?_⟩
    walk_at "go"
    refine ⟨_, _, rfl, rfl, ?_, ?_⟩
    · have key : ∀ k : Nat, k ≤ 100 → PadOk (k : Int) = true := by decide
      exact key k h3
    · rw [zfill_bits h1 h2]
      exact q
end
end Me
set_option maxHeartbeats 8000000
namespace Me
open PySem L2


/-- how many codes are short -/
def shortN (m : Nat) : Nat := 2 ^ (m.log2 + 1) - m
def codeS (m : Nat) (wd : Option Nat) (n : Nat) : Str := match wd with
  | some W => bitS n W
  | none => if n < shortN m then bitS n m.log2 else bitS (n + shortN m) (m.log2 + 1)
/-- a Number of m integers from low on -/
structure NumOk (C : Addr) (H : Hp) (p : Addr) (low : Int) (m : Nat) (wd : Option Nat) : Prop where
  at_ : NumAt C H p low (low + m - 1) wd
  lo : 2 ≤ m
  hi : m ≤ 2 ^ 60
  wd : ∀ W, wd = some W → 1 ≤ W ∧ W ≤ 60 ∧ m ≤ 2 ^ W
theorem NumOk.same {C : Addr} {H H' : Hp} {p : Addr} {low : Int} {m : Nat} {wd : Option Nat} (h : NumOk C H p low m wd) (s : Same H H') : NumOk C H' p low m wd := ⟨h.at_.same s, h.lo, h.hi, h.wd⟩
theorem log2_facts {m : Nat} (h : 2 ≤ m) (h2 : m ≤ 2 ^ 60) : 2 ^ m.log2 ≤ m ∧ m < 2 ^ (m.log2 + 1) ∧ 1 ≤ m.log2 ∧ m.log2 ≤ 60 := by
  have h0 : m ≠ 0 := by omega
  refine ⟨Nat.log2_self_le h0, Nat.lt_log2_self, ?_, ?_⟩
  · exact (Nat.le_log2 h0).mpr (by simpa using h)
  · have := (Nat.log2_lt h0).mpr (show m < 2 ^ 61 from Nat.lt_of_le_of_lt h2 (by decide))
    omega
theorem same_upd {H : Hp} {p : Addr} {o : HO} (n : H p = none) : Same H (upd H p o) := fun b u e => by rw [upd_ne (ne_of_none e n)]; exact e
section
variable {P : Program} {w : World} {K : PySem.W.Frag} {mg : Str → Option Value} {base : Heap} {a : Ad}
def spNB (a : Ad) : Sp := fun vs H Q _ => ∃ (p : Addr) (low : Int) (m n : Nat) (wd : Option Nat), vs = [.ref p, .int (low + n)] ∧ NumOk a.c_Number H p low m wd ∧ n < m ∧ ∀ H', Same H H' → Q (.str (codeS m wd n)) H'
theorem ok_number_bits (T : Txt P K mg a) : FnOk P w K mg base CX0 2 a.number_bits.f a.number_bits.fd ["kind", "integer"] (spNB a) := by
  have G_bits_of : FnOk P w K mg base CX0 1 a.bits_of.f a.bits_of.fd ["number", "size"] spBitsOf := ok_bits_of T
  have G_tight_code : FnOk P w K mg base CX0 1 a.tight_code.f a.tight_code.fd ["many"] spTight := ok_tight T
  have G_how_many_integers : FnOk P w K mg base CX0 1 a.how_many_integers.f a.how_many_integers.fd ["number"] (spMany a) := ok_many T
  have sc : FnScope ["kind", "integer", "number", "size", "short"] ["kind", "integer"] (defScope (top 11)) := ⟨rfl, rfl, rfl, by decide +kernel, rfl, by decide +kernel, by decide +kernel⟩
  refine T.number_bits.ok sc (fun vs H Q E h => ?_) (fun cdv A outer s H vs Q E hr h => ?_)
  · obtain ⟨p, l, m, n, wd, rfl, _⟩ := h; rfl
  · obtain ⟨p, low, m, n, wd, rfl, N, hn, k⟩ := h
    refine ⟨_, (pss_cons (ps_set (i := 2) sc.nd rfl (by first | exact Or.inl rfl | exact Or.inr rfl) (pe_op op_sub (pv 1) (pe_fld (pv 0) rfl)))
      (pss_cons (ps_if (pt_cmpR op_notN (pe_fld (pv 0) rfl) pe_non (nomark _))
      (pss_one (ps_ret (pe_call G_bits_of (hr.mono (by first | decide | omega)) rfl T.bits_of.mg T.bits_of.kp T.bits_of.b .nil pass0 (pa_cons (pv 2) (pa_cons (pe_fld (pv 0) rfl) pa_nil)))))
      pss_nil)
      (pss_cons (ps_asg (pe_call G_tight_code (hr.mono (by first | decide | omega)) rfl T.tight_code.mg T.tight_code.kp T.tight_code.b .nil pass0 (pa_cons (pe_call G_how_many_integers (hr.mono (by first | decide | omega)) rfl T.how_many_integers.mg T.how_many_integers.kp T.how_many_integers.b .nil pass0 (pa_cons (pv 0) pa_nil)) pa_nil)) (pg_tup (by rfl) (pgs_cons (pg_name (i := 3) sc.nd rfl (by first | exact Or.inl rfl | exact Or.inr rfl)) (pgs_cons (pg_name (i := 4) sc.nd rfl (by first | exact Or.inl rfl | exact Or.inr rfl)) pgs_nil))))
      (pss_cons (ps_if (pt_cmpR op_lt (pv 2) (pv 4) (nomark _))
      (pss_one (ps_ret (pe_call G_bits_of (hr.mono (by first | decide | omega)) rfl T.bits_of.mg T.bits_of.kp T.bits_of.b .nil pass0 (pa_cons (pv 2) (pa_cons (pv 3) pa_nil)))))
      pss_nil)
      (pss_one (ps_ret (pe_call G_bits_of (hr.mono (by first | decide | omega)) rfl T.bits_of.mg T.bits_of.kp T.bits_of.b .nil pass0 (pa_cons (pe_op op_add (pv 2) (pv 4)) (pa_cons (pe_op op_add (pv 3) pe_int) pa_nil))))))))), ?_⟩
    obtain ⟨dx, e⟩ := N.at_
    obtain ⟨f1, f2, f3, f4⟩ := log2_facts N.lo N.hi
    walk_at "go"
    refine i_fld1 rfl e T.cl_Number (T.no_Number _ (by decide +kernel)) rfl ?_
    refine i_rI0 ?_
    rw [show low + (n : Int) - low = (n : Int) by omega]
    walk_at "go"
    refine i_fld1 rfl e T.cl_Number (T.no_Number _ (by decide +kernel)) rfl ?_
    walk_at "go"
    refine ⟨rfl, ?_⟩
    cases wd with
    | some W =>
      obtain ⟨w1, w2, w3⟩ := N.wd W rfl
      refine ⟨_, rfl, i_yes rfl ?_⟩
      walk_at "go"
      refine i_fld1 rfl e T.cl_Number (T.no_Number _ (by decide +kernel)) rfl ?_
      walk_at "go"
      exact ⟨n, W, rfl, by omega, w1, by omega, k H fun _ _ e => e⟩
    | none =>
      refine ⟨_, rfl, i_no rfl ?_⟩
      walk_at "go"
      refine ⟨p, low, low + m - 1, none, rfl, N.at_, ?_⟩
      rw [show low + (m : Int) - 1 - low + 1 = (m : Int) by omega]
      walk_at "go"
      refine ⟨m, rfl, N.lo, N.hi, fun t nt => ?_⟩
      have es : ((2 ^ (m.log2 + 1) : Nat) : Int) - (m : Int) = ((shortN m : Nat) : Int) := by unfold shortN; omega
      rw [es]
      refine ⟨t, _, rfl, SqT.of upd_same, rfl, ?_⟩
      refine ⟨_, _, rfl, Me.i_gname ⟨_, _, rfl, Me.i_gname ⟨rfl, ?_⟩⟩⟩
      walk_at "go"
      have hs := same_upd (o := .tup [.int (m.log2 : Int), .int ((shortN m : Nat) : Int)]) nt
      have kk := k _ hs
      refine i_itd (fun h => ?_) (fun h => ?_)
      · have h' : n < shortN m := by omega
        walk_at "go"
        refine ⟨n, m.log2, rfl, ?_, f3, by omega, ?_⟩
        · unfold shortN at h'
          have : 2 ^ (m.log2 + 1) = 2 ^ m.log2 * 2 := Nat.pow_succ ..
          omega
        · have e : codeS m none n = bitS n m.log2 := if_pos h'
          rw [e] at kk
          exact kk
      · have h' : ¬ n < shortN m := by omega
        walk_at "go"
        refine ⟨n + shortN m, m.log2 + 1, by push_cast; rfl, ?_, by omega, by omega, ?_⟩
        · unfold shortN
          omega
        · have e : codeS m none n = bitS (n + shortN m) (m.log2 + 1) := if_neg h'
          rw [e] at kk
          exact kk
end
end Me
set_option maxHeartbeats 8000000
namespace Me
open PySem L2


def tNeverE : TE := fun _ _ _ => False
def tNeverT : TT := fun _ _ _ => False
theorem pe_never {X : Cx} {e : Expr} : PE X e tNeverE := ⟨fun _ _ _ _ _ _ h => h.elim⟩
theorem i_isiN {K : PySem.W.Frag} {H : Hp} {Q : VK} {p : Addr} {C D : Addr} {b : Bool} (ty : TyX K H (.ref p) (.ref C)) (e : PySem.W.kitOne K (.ref C) (.ref D) = some b) (q : Q (.bl b) H) : rIsi K [.ref p, .ref D] H Q := by
  exact ⟨.ref p, .ref D, .ref C, .ref D, b, rfl, .own _, ty, e, q⟩
section
variable {P : Program} {w : World} {K : PySem.W.Frag} {mg : Str → Option Value} {base : Heap} {a : Ad}
/-- asked of a Number: the answer stands -/
def spAsk (a : Ad) (b : Bool) : Sp := fun vs H Q _ => ∃ p low high wd, vs = [.ref p] ∧ NumAt a.c_Number H p low high wd ∧ ∀ H', Same H H' → Q (.bl b) H'
theorem ok_is_simple (T : Txt P K mg a) : FnOk P w K mg base CX0 1 a.is_simple.f a.is_simple.fd ["thing"] (spAsk a true) := by
  have sc : FnScope ["thing"] ["thing"] (defScope (top 32)) := ⟨rfl, rfl, rfl, by decide +kernel, rfl, by decide +kernel, by decide +kernel⟩
  refine T.is_simple.ok sc (fun vs H Q E h => ?_) (fun cdv A outer s H vs Q E hr h => ?_)
  · obtain ⟨p, l, h2, wd, rfl, _⟩ := h; rfl
  · obtain ⟨p, l, h2, wd, rfl, ⟨dx, e⟩, k⟩ := h
    refine ⟨_, (pss_one (ps_ret (pe_callB call_isiT (by rfl) T.isinstance (by decide +kernel) (pa_cons (pv 0) (pa_cons (pe_tup (pa_cons (pe_glob (v := .ref a.c_Number) rfl T.Number rfl) (pa_cons (pe_glob (v := .ref a.c_Bits) rfl T.Bits rfl) (pa_cons (pe_glob (v := .ref a.c_Items) rfl T.Items rfl) (pa_cons (pe_glob (v := .ref a.c_Call) rfl T.Call rfl) pa_nil))))) pa_nil))))), ?_⟩
    walk_at "go"
    rename_i t nt
    refine ⟨.ref p, t, _, .ref a.c_Number, [.ref a.c_Number, .ref a.c_Bits, .ref a.c_Items, .ref a.c_Call], true, rfl, upd_same, .cons (.own _) (.cons (.own _) (.cons (.own _) (.cons (.own _) .nil))), T.ty_Number _ _ dx _ (same_upd nt _ _ e), ?_, k _ (same_upd nt)⟩
    show PySem.W.kitAny K (.ref a.c_Number) _ = some true
    unfold PySem.W.kitAny
    rw [T.kt_Number_Number]
theorem ok_rooms_of (T : Txt P K mg a) : FnOk P w K mg base CX0 1 a.rooms_of.f a.rooms_of.fd ["kind"] (fun vs H Q _ => ∃ p low high wd, vs = [.ref p] ∧ NumAt a.c_Number H p low high wd ∧ ∀ l, H l = none → Q (.ref l) (upd H l (.lst []))) := by
  have sc : FnScope ["kind", "part"] ["kind"] (defScope (top 54)) := ⟨rfl, rfl, rfl, by decide +kernel, rfl, by decide +kernel, by decide +kernel⟩
  refine T.rooms_of.ok sc (fun vs H Q E h => ?_) (fun cdv A outer s H vs Q E hr h => ?_)
  · obtain ⟨p, l, h2, wd, rfl, _⟩ := h; rfl
  · obtain ⟨p, l, h2, wd, rfl, ⟨dx, e⟩, k⟩ := h
    refine ⟨_, (pss_cons (ps_if (pt_val (pe_callB call_isi (by rfl) T.isinstance (by decide +kernel) (pa_cons (pv 0) (pa_cons (pe_glob (v := .ref a.c_Row) rfl T.Row rfl) pa_nil))))
      (pss_one ps_never)
      pss_nil)
      (pss_one (ps_ret (pe_lst pa_nil)))), ?_⟩
    walk_at "go"
    refine i_isiN (T.ty_Number _ _ _ _ e) T.kt_Number_Row ⟨_, rfl, i_no rfl ?_⟩
    walk_at "go"
    exact k _ ‹_›
theorem ok_bodies_of (T : Txt P K mg a) : FnOk P w K mg base CX0 2 a.bodies_of.f a.bodies_of.fd ["kind"] (fun vs H Q _ => ∃ p low high wd, vs = [.ref p] ∧ NumAt a.c_Number H p low high wd ∧ ∀ l, H l = none → Q (.ref l) (upd H l (.lst []))) := by
  have G_rooms_of := ok_rooms_of (P := P) (w := w) (base := base) T
  have sc : FnScope ["kind", "way"] ["kind"] (defScope (top 53)) := ⟨rfl, rfl, rfl, by decide +kernel, rfl, by decide +kernel, by decide +kernel⟩
  refine T.bodies_of.ok sc (fun vs H Q E h => ?_) (fun cdv A outer s H vs Q E hr h => ?_)
  · obtain ⟨p, l, h2, wd, rfl, _⟩ := h; rfl
  · obtain ⟨p, l, h2, wd, rfl, ⟨dx, e⟩, k⟩ := h
    refine ⟨_, (pss_cons (ps_if (pt_val (pe_callB call_isi (by rfl) T.isinstance (by decide +kernel) (pa_cons (pv 0) (pa_cons (pe_glob (v := .ref a.c_Choice) rfl T.Choice rfl) pa_nil))))
      (pss_one ps_never)
      pss_nil)
      (pss_one (ps_ret (pe_call G_rooms_of (hr.mono (by first | decide | omega)) rfl T.rooms_of.mg T.rooms_of.kp T.rooms_of.b .nil pass0 (pa_cons (pv 0) pa_nil))))), ?_⟩
    walk_at "go"
    refine i_isiN (T.ty_Number _ _ _ _ e) T.kt_Number_Choice ⟨_, rfl, i_no rfl ?_⟩
    walk_at "go"
    exact ⟨p, l, h2, wd, rfl, ⟨dx, e⟩, k⟩
theorem ok_inner_kinds (T : Txt P K mg a) : FnOk P w K mg base CX0 1 a.inner_kinds.f a.inner_kinds.fd ["kind"] (fun vs H Q _ => ∃ p low high wd, vs = [.ref p] ∧ NumAt a.c_Number H p low high wd ∧ ∀ l, H l = none → Q (.ref l) (upd H l (.lst []))) := by
  have sc : FnScope ["kind", "way", "part"] ["kind"] (defScope (top 45)) := ⟨rfl, rfl, rfl, by decide +kernel, rfl, by decide +kernel, by decide +kernel⟩
  refine T.inner_kinds.ok sc (fun vs H Q E h => ?_) (fun cdv A outer s H vs Q E hr h => ?_)
  · obtain ⟨p, l, h2, wd, rfl, _⟩ := h; rfl
  · obtain ⟨p, l, h2, wd, rfl, ⟨dx, e⟩, k⟩ := h
    refine ⟨_, (pss_cons (ps_if (pt_val (pe_callB call_isi (by rfl) T.isinstance (by decide +kernel) (pa_cons (pv 0) (pa_cons (pe_glob (v := .ref a.c_Items) rfl T.Items rfl) pa_nil))))
      (pss_one ps_never)
      pss_nil)
      (pss_cons (ps_if (pt_val (pe_callB call_isi (by rfl) T.isinstance (by decide +kernel) (pa_cons (pv 0) (pa_cons (pe_glob (v := .ref a.c_Choice) rfl T.Choice rfl) pa_nil))))
      (pss_one ps_never)
      pss_nil)
      (pss_cons (ps_if (pt_val (pe_callB call_isi (by rfl) T.isinstance (by decide +kernel) (pa_cons (pv 0) (pa_cons (pe_glob (v := .ref a.c_Row) rfl T.Row rfl) pa_nil))))
      (pss_one ps_never)
      pss_nil)
      (pss_one (ps_ret (pe_lst pa_nil)))))), ?_⟩
    walk_at "go"
    refine i_isiN (T.ty_Number _ _ _ _ e) T.kt_Number_Items ⟨_, rfl, i_no rfl ?_⟩
    walk_at "go"
    refine i_isiN (T.ty_Number _ _ _ _ e) T.kt_Number_Choice ⟨_, rfl, i_no rfl ?_⟩
    walk_at "go"
    refine i_isiN (T.ty_Number _ _ _ _ e) T.kt_Number_Row ⟨_, rfl, i_no rfl ?_⟩
    walk_at "go"
    exact k _ ‹_›
end
end Me
set_option maxHeartbeats 8000000
namespace Me
open PySem L2


section
variable {P : Program} {w : World} {K : PySem.W.Frag} {mg : Str → Option Value} {base : Heap} {a : Ad}
theorem ok_called_names (T : Txt P K mg a) : FnOk P w K mg base CX0 2 a.called_names.f a.called_names.fd ["kind"] (fun vs H Q _ => ∃ p low high wd, vs = [.ref p] ∧ NumAt a.c_Number H p low high wd ∧ ∀ l H', H l = none → Same H H' → H' l = some (.lst []) → Q (.ref l) H') := by
  have G_inner_kinds := ok_inner_kinds (P := P) (w := w) (base := base) T
  have sc : FnScope ["kind", "names", "inner"] ["kind"] (defScope (top 46)) := ⟨rfl, rfl, rfl, by decide +kernel, rfl, by decide +kernel, by decide +kernel⟩
  refine T.called_names.ok sc (fun vs H Q E h => ?_) (fun cdv A outer s H vs Q E hr h => ?_)
  · obtain ⟨p, l, h2, wd, rfl, _⟩ := h; rfl
  · obtain ⟨p, l, h2, wd, rfl, ⟨dx, e⟩, k⟩ := h
    refine ⟨_, (pss_cons (ps_if (pt_val (pe_callB call_isi (by rfl) T.isinstance (by decide +kernel) (pa_cons (pv 0) (pa_cons (pe_glob (v := .ref a.c_Call) rfl T.Call rfl) pa_nil))))
      (pss_one ps_never)
      pss_nil)
      (pss_cons (ps_set (i := 1) sc.nd rfl (by first | exact Or.inl rfl | exact Or.inr rfl) (pe_lst pa_nil))
      (pss_cons (ps_for PassesOwn.never rfl (pi_list (pe_call G_inner_kinds (hr.mono (by first | decide | omega)) rfl T.inner_kinds.mg T.inner_kinds.kp T.inner_kinds.b .nil pass0 (pa_cons (pv 0) pa_nil))) (pg_name (i := 2) sc.nd rfl (by first | exact Or.inl rfl | exact Or.inr rfl))
      (pss_one ps_never))
      (pss_one (ps_ret (pv 1)))))), ?_⟩
    walk_at "go"
    refine i_isiN (T.ty_Number _ _ _ _ e) T.kt_Number_Call ⟨_, rfl, i_no rfl ?_⟩
    walk_at "go"
    rename_i t nt
    refine ⟨_, rfl, p, l, h2, wd, rfl, ⟨dx, same_upd nt _ _ e⟩, fun t2 nt2 => ?_⟩
    have ht : upd (upd H t (.lst [])) t2 (.lst []) t = some (.lst []) := by rw [upd_ne (ne_of_none upd_same nt2)]; exact upd_same
    refine ⟨t2, rfl, ⟨_, SqL.of upd_same⟩, ?_⟩
    refine for_list (K := K) (a := t2) (xs := []) (fun i σ' H' => σ' = [some (.ref p), some (.ref t), none] ∧ H' = upd (upd H t (.lst [])) t2 (.lst [])) ⟨rfl, rfl⟩ (fun i σ' H' _ h => ?_) (fun i x σ' H' hx => ?_) (fun σ' H' h => ?_)
    · rw [h.2]; exact SqL.of upd_same
    · cases hx
    · obtain ⟨rfl, rfl⟩ := h
      walk_at "go"
      exact k t _ nt (fun b o eb => same_upd nt2 b o (same_upd nt b o eb)) ht
end
end Me
set_option maxHeartbeats 8000000
namespace Me
open PySem L2


theorem val_one {z : Str} {v : V} : valV [((Sum.inr z : Key), v)] (.inr z) = some v := by
  unfold valV
  simp
theorem Rd.same {H H' : Hp} {d : Addr} {o : HO} (h : Rd H d o) (s : Same H H') : Rd H' d o := by
  rcases h with h | ⟨u, h⟩
  · exact .inl (s _ _ h)
  · exact .inr ⟨u, s _ _ h⟩
section
variable {P : Program} {w : World} {K : PySem.W.Frag} {mg : Str → Option Value} {base : Heap} {a : Ad}
theorem ok_reached_names (T : Txt P K mg a) : FnOk P w K mg base CX0 1 a.reached_names.f a.reached_names.fd ["calls", "name"] (fun vs H Q _ => ∃ (d l : Addr) (z : Str), vs = [.ref d, .str z] ∧ Rd H d (.dK [(.inr z, .ref l)]) ∧ H l = some (.lst []) ∧ ∀ t H', H t = none → Same H H' → H' t = some (.lst []) → Q (.ref t) H') := by
  have sc : FnScope ["calls", "name", "reached", "waiting", "called"] ["calls", "name"] (defScope (top 47)) := ⟨rfl, rfl, rfl, by decide +kernel, rfl, by decide +kernel, by decide +kernel⟩
  refine T.reached_names.ok sc (fun vs H Q E h => ?_) (fun cdv A outer s H vs Q E hr h => ?_)
  · obtain ⟨d, l, z, rfl, _⟩ := h; rfl
  · obtain ⟨d, l, z, rfl, hd, hl, k⟩ := h
    refine ⟨_, (pss_cons (ps_set (i := 2) sc.nd rfl (by first | exact Or.inl rfl | exact Or.inr rfl) (pe_lst pa_nil))
      (pss_cons (ps_set (i := 3) sc.nd rfl (by first | exact Or.inl rfl | exact Or.inr rfl) (pe_callTy call_list_of (by rfl) T.list (by decide +kernel) (pa_cons (pe_dget (hu_of hr) (pv 0) (pv 1) (fun _ _ => rfl)) pa_nil)))
      (pss_cons (ps_while PassesOwn.never (pt_cmpR (op_neD hr.units) (pv 3) (pe_lst pa_nil) (nomark _)) pss_never)
      (pss_one (ps_ret (pv 2)))))), ?_⟩
    walk_at "go"
    rename_i t nt
    have s1 := same_upd (o := .lst []) nt
    refine ⟨_, rfl, _, rfl, d, .ref l, rfl, .inl ⟨_, .inr z, Me.Rd.same hd s1, rfl, val_one.symm⟩, ?_⟩
    refine Me.i_nil ⟨l, [], rfl, .inl (SqL.of (s1 _ _ hl)), fun t2 nt2 => ?_⟩
    have s2 := same_upd (o := .lst []) nt2
    refine Me.i_gname (Me.i_seq ?_)
    refine ⟨fun m σ' H' => σ' = [some (.ref d), some (.str z), some (.ref t), some (.ref t2), none] ∧ H' = upd (upd H t (.lst [])) t2 (.lst []), ⟨0, rfl, rfl⟩, ?_⟩
    rintro m σ' H' ⟨rfl, rfl⟩
    walk_at "go"
    rename_i t3 nt3
    have s3 := same_upd (o := .lst []) nt3
    refine ⟨.list [], .list [], .lst (SqL.of (s3 _ _ upd_same)) .nil, .lst (SqL.of upd_same) .nil, rfl, rfl, ?_⟩
    walk_at "go"
    refine i_no rfl ?_
    walk_at "go"
    exact k t _ nt (fun b o eb => s3 b o (s2 b o (s1 b o eb))) (s3 _ _ (s2 _ _ upd_same))
end
end Me
set_option maxHeartbeats 8000000
namespace Me
open PySem L2


section
variable {P : Program} {w : World} {K : PySem.W.Frag} {mg : Str → Option Value} {base : Heap} {a : Ad}
def spLen (a : Ad) : Sp := fun vs H Q _ => ∃ (x dx : Addr) (nd : V) (c : Nat), vs = [.ref x, nd, .int (c : Int)] ∧ c ≤ 10 ∧ H x = some (.ins a.c_Lengths dx []) ∧ ∀ H', (∀ b o, b ≠ x → H b = some o → H' b = some o) → Q .non H'
theorem ok_len_init (T : Txt P K mg a) : FnOk P w K mg base CX0 1 a.m_Lengths_init.f a.m_Lengths_init.fd ["self", "named", "count"] (spLen a) := by
  have sc : FnScope ["self", "named", "count"] ["self", "named", "count"] (defScope (inClass (top 50) 0)) := ⟨rfl, rfl, rfl, by decide +kernel, rfl, by decide +kernel, by decide +kernel⟩
  refine ok0 T.m_Lengths_init sc (fun vs H Q E h => ?_) (fun cdv A outer s H vs Q E hr h => ?_)
  · obtain ⟨x, dx, nd, c, rfl, _⟩ := h; rfl
  · obtain ⟨x, dx, nd, c, rfl, hc, hx, k⟩ := h
    refine ⟨_, (pss_cons (ps_fld (pv 0) (pv 1) rfl)
      (pss_cons (ps_fld (pv 0) (pv 2) rfl)
      (pss_cons (ps_fld (pv 0) (pe_op op_sub (pe_op op_shl pe_int (pv 2)) pe_int) rfl)
      (pss_one (ps_fld (pv 0) pe_dnewK rfl))))), ?_⟩
    walk_at "go"
    have no : ∀ f ∈ fields, NoAttr K a.c_Lengths f := T.no_Lengths
    refine ⟨_, rfl, _, rfl, x, _, dx, _, rfl, hx, T.cl_Lengths, no _ (by decide +kernel), by decide, ?_⟩
    refine Me.i_seq ?_
    refine ⟨_, rfl, _, rfl, x, _, dx, _, rfl, upd_same, T.cl_Lengths, no _ (by decide +kernel), (by show 1 < 1000; decide), ?_⟩
    refine Me.i_seq ?_
    refine Me.i_op (Me.i_op (Me.i_c (Me.i_var rfl ⟨1, (c : Int), rfl, rfl, ⟨by omega, by omega, by decide⟩, Me.i_c (Me.i_rI0 ?_)⟩)))
    refine ⟨_, rfl, x, _, dx, _, rfl, upd_same, T.cl_Lengths, no _ (by decide +kernel), (by show 2 < 1000; decide), ?_⟩
    intro d nd
    have hd : d ≠ x := fun z => by rw [z, upd_same] at nd; cases nd
    refine ⟨_, rfl, x, _, dx, _, rfl, (by rw [upd_ne (Ne.symm hd)]; exact upd_same), T.cl_Lengths, no _ (by decide +kernel), (by show 3 < 1000; decide), ?_⟩
    refine k _ fun b o nb e => ?_
    have nbd : b ≠ d := fun z => by
      rw [z] at e nb
      rw [upd_ne nb, upd_ne nb, upd_ne nb, e] at nd
      cases nd
    rw [upd_ne nb, upd_ne nbd, upd_ne nb, upd_ne nb, upd_ne nb]
    exact e
end
end Me
set_option maxHeartbeats 8000000
namespace Me
open PySem L2


section
variable {P : Program} {w : World} {K : PySem.W.Frag} {mg : Str → Option Value} {base : Heap} {a : Ad}
def spBodies (a : Ad) : Sp := fun vs H Q _ => ∃ (d p : Addr) (z : Str) (low high : Int) (wd : Option Nat) (c : Nat), vs = [.ref d, .int (c : Int)] ∧ c ≤ 10 ∧ H d = some (.dK [(.inr z, .ref p)]) ∧ NumAt a.c_Number H p low high wd ∧ ∀ H', Same H H' → Q .non H'
theorem ok_check_bodies (T : Txt P K mg a) : FnOk P w K mg base CX0 3 a.check_bodies.f a.check_bodies.fd ["named", "count"] (spBodies a) := by
  have G_len := ok_len_init (P := P) (w := w) (base := base) T
  have G_bodies_of := ok_bodies_of (P := P) (w := w) (base := base) T
  have sc : FnScope ["named", "count", "lengths", "name", "inner"] ["named", "count"] (defScope (top 52)) := ⟨rfl, rfl, rfl, by decide +kernel, rfl, by decide +kernel, by decide +kernel⟩
  refine T.check_bodies.ok sc (fun vs H Q E h => ?_) (fun cdv A outer s H vs Q E hr h => ?_)
  · obtain ⟨d, p, z, l, h2, wd, c, rfl, _⟩ := h; rfl
  · obtain ⟨d, p, z, l, h2, wd, c, rfl, hc, hd, N, k⟩ := h
    refine ⟨_, (pss_cons (ps_set (i := 2) sc.nd rfl (by first | exact Or.inl rfl | exact Or.inr rfl) (pe_make T.mk_Lengths G_len (hr.mono (by decide)) rfl T.Lengths T.b_m_Lengths_init .nil pass0 (pa_cons (pv 0) (pa_cons (pv 1) pa_nil))))
      (pss_one (ps_for PassesOwn.never rfl (pi_list (pe_callB (call_sortedD rfl) (by rfl) T.sorted (by decide +kernel) (pa_cons (pv 0) pa_nil))) (pg_name (i := 3) sc.nd rfl (by first | exact Or.inl rfl | exact Or.inr rfl))
      (pss_one (ps_for PassesOwn.never rfl (pi_list (pe_call G_bodies_of (hr.mono (by first | decide | omega)) rfl T.bodies_of.mg T.bodies_of.kp T.bodies_of.b .nil pass0 (pa_cons (pe_dget (hu_of hr) (pv 0) (pv 3) (fun _ _ => rfl)) pa_nil))) (pg_name (i := 4) sc.nd rfl (by first | exact Or.inl rfl | exact Or.inr rfl))
      (pss_one ps_never)))))), ?_⟩
    walk_at "go"
    refine ⟨_, rfl, _, rfl, fun x dx nx ndx ne => ?_⟩
    have dn : d ≠ x ∧ d ≠ dx := ⟨ne_of_none hd nx, ne_of_none hd ndx⟩
    refine ⟨x, dx, _, c, rfl, hc, upd_same, fun H1 h1 => ?_⟩
    have s1 : Same H H1 := fun b o e => h1 b o (ne_of_none e nx) (by rw [upd_ne (ne_of_none e nx), upd_ne (ne_of_none e ndx)]; exact e)
    refine ⟨rfl, Me.i_gname ?_⟩
    refine ⟨_, rfl, d, _, [z], rfl, .inl (s1 _ _ hd), rfl, (by show 1 < 64; decide), fun ys t pm _ nt => ?_⟩
    have ey : ys = [z] := List.perm_singleton.mp pm
    subst ey
    have s2 := same_upd (o := .lst ([z].map V.str)) nt
    refine ⟨t, rfl, ⟨_, SqL.of upd_same⟩, ?_⟩
    refine for_list (K := K) (a := t) (xs := [.str z]) (fun i σ' H' => (∃ v4, σ' = [some (.ref d), some (.int (c : Int)), some (.ref x), (if i = 0 then none else some (.str z)), v4]) ∧ Same (upd H1 t (.lst ([z].map V.str))) H') ⟨⟨none, rfl⟩, fun _ _ e => e⟩ (fun i σ' H' _ h => ?_) (fun i v σ' H' hv h => ?_) (fun σ' H' h => ?_)
    · exact SqL.of (h.2 _ _ upd_same)
    · match i, hv with
      | 0, hv =>
        cases hv
        obtain ⟨⟨v4, rfl⟩, sH⟩ := h
        refine Me.i_gname ?_
        have hd' := sH _ _ (s2 _ _ (s1 _ _ hd))
        refine ⟨_, rfl, _, rfl, d, .ref p, rfl, .inl ⟨_, .inr z, .inl hd', rfl, val_one.symm⟩, ?_⟩
        refine Me.i_nil ⟨p, l, h2, wd, rfl, ((N.same s1).same s2).same sH, fun t2 nt2 => ?_⟩
        have s3 := same_upd (o := .lst []) nt2
        refine ⟨t2, rfl, ⟨_, SqL.of upd_same⟩, ?_⟩
        refine for_list (K := K) (a := t2) (xs := []) (fun i σ' H'' => σ' = [some (.ref d), some (.int (c : Int)), some (.ref x), some (.str z), v4] ∧ H'' = upd H' t2 (.lst [])) ⟨rfl, rfl⟩ (fun i σ' H' _ h => ?_) (fun i x σ' H' hx => ?_) (fun σ' H' h => ?_)
        · rw [h.2]; exact SqL.of upd_same
        · cases hx
        · obtain ⟨rfl, rfl⟩ := h
          exact ⟨⟨v4, rfl⟩, fun b o e => s3 b o (sH b o e)⟩
      | i + 1, hv => simp at hv
    · obtain ⟨_, sH⟩ := h
      exact k _ fun b o e => sH b o (s2 b o (s1 b o e))
end
end Me
set_option maxHeartbeats 8000000
namespace Me
open PySem L2


theorem i_chain {r r' : R2} {ta tb tc : TE} {σ : L2.St} {H : Hp} {Q : VK} (q : ta σ H fun x H1 => tb σ H1 fun y H2 => r x y H2 fun z H3 => ∃ k, z = .bl k ∧ (if k = true then tc σ H3 fun w' H4 => r' y w' H4 Q else Q (.bl false) H3)) : tChain r r' ta tb tc σ H Q := q
theorem i_sfld {K : PySem.W.Frag} {ta tv : TE} {f : Str} {D : Ends} {σ : L2.St} {H : Hp} (q : tv σ H fun y H1 => ta σ H1 fun x H2 => ∃ a C dx fs, x = .ref a ∧ H2 a = some (.ins C dx fs) ∧ Cls K C ∧ NoAttr K C f ∧ fs.length < 1000 ∧ D.nx σ (upd H2 a (.ins C dx (putF f y fs)))) : sFld K ta tv f D σ H := q
def Kept (H : Hp) (x : Addr) (H' : Hp) : Prop := ∀ b o, b ≠ x → H b = some o → H' b = some o
theorem Kept.upd {H H' : Hp} {x : Addr} {o : HO} (k : Kept H x H') : Kept H x (upd H' x o) := fun b u n e => by rw [upd_ne n]; exact k b u n e
theorem Kept.rfl' {H : Hp} {x : Addr} : Kept H x H := fun _ _ _ e => e
theorem Kept.new {H H' : Hp} {x p : Addr} {o : HO} (k : Kept H x H') (n : H' p = none) : Kept H x (L2.upd H' p o) := fun b u nb e => by rw [upd_ne (ne_of_none (k b u nb e) n)]; exact k b u nb e
theorem ok0d {P : Program} {w : World} {K : PySem.W.Frag} {mg : Str → Option Value} {base : Heap} {x qual : Str} {params : Arguments} {body : List Stmt} {scope : Scope} {d1 : List V} {d2 : List (Str × V)} {f : Addr} {fd : FuncData} {N ps : List Str} {k : Nat} {sp : Sp} (F : FunD K x qual params body scope d1 d2 f fd) (S : FnScope N ps scope) (len : ∀ vs H Q E, sp vs H Q E → vs.length = ps.length)
    (go : ∀ (cdv : Value) (A : Around) (outer : List Env) (s : Shared) (H : Hp) (vs : List V) (Q : VK) (E : XK), Room k (A.deeper (PyProof.Rows.envOfC qual scope s.heap.objs.size f cdv)) → sp vs H Q E →
      ∃ t, PSs (cxOf CX0 P w K mg base N qual scope f cdv A outer s H E).nox body t ∧ t { nx := fun _ H' => Q .non H', rt := Q } (start N vs) H) : FnOk P w K mg base CX0 (k + 1) f fd ps sp := by
  refine F.ok S len fun cdv A outer s H vs Q E hr h => ?_
  obtain ⟨t, h1, q⟩ := go cdv A outer s H vs Q E hr h
  exact ⟨t, h1.nox, q⟩
section
variable {P : Program} {w : World} {K : PySem.W.Frag} {mg : Str → Option Value} {base : Heap} {a : Ad}
def wdV (wd : Option Nat) : V := match wd with
  | none => .non
  | some n => .int (n : Int)
def spNumI (a : Ad) : Sp := fun vs H Q _ => ∃ (x dx : Addr) (low : Int) (m : Nat) (wd : Option Nat), vs = [.ref x, .int low, .int (low + m - 1), wdV wd] ∧ H x = some (.ins a.c_Number dx []) ∧ 2 ≤ m ∧ m ≤ 2 ^ 60 ∧ (∀ W, wd = some W → 1 ≤ W ∧ W ≤ 60 ∧ m ≤ 2 ^ W) ∧
  ∀ H', Kept H x H' → NumOk a.c_Number H' x low m wd → Q .non H'
theorem ok_num (T : Txt P K mg a) : FnOk P w K mg base CX0 3 a.m_Number_init.f a.m_Number_init.fd ["self", "low", "high", "width"] (spNumI a) := by
  have G_is_int : FnOk P w K mg base CX0 1 a.is_int.f a.is_int.fd ["thing"] spIsInt := ok_is_int T
  have G_is_int_within : FnOk P w K mg base CX0 2 a.is_int_within.f a.is_int_within.fd ["thing", "least", "most"] spWithin := ok_within T
  have sc : FnScope ["self", "low", "high", "width"] ["self", "low", "high", "width"] (defScope (inClass (top 28) 0)) := ⟨rfl, rfl, rfl, by decide +kernel, rfl, by decide +kernel, by decide +kernel⟩
  refine ok0d T.m_Number_init sc (fun vs H Q E h => ?_) (fun cdv A outer s H vs Q E hr h => ?_)
  · obtain ⟨x, dx, low, m, wd, rfl, _⟩ := h
    rfl
  · obtain ⟨x, dx, low, m, wd, rfl, hx, h1, h2, h3, k⟩ := h
    refine ⟨_, (pss_cons (ps_if (pt_not (pt_val (pe_call G_is_int (hr.mono (by first | decide | omega)) rfl T.is_int.mg T.is_int.kp T.is_int.b .nil pass0 (pa_cons (pv 1) pa_nil))))
      (pss_one ps_never)
      pss_nil)
      (pss_cons (ps_if (PW.pt (pw_or (pt_not (pt_val (pe_call G_is_int (hr.mono (by first | decide | omega)) rfl T.is_int.mg T.is_int.kp T.is_int.b .nil pass0 (pa_cons (pv 2) pa_nil)))) (pw_or1 (pt_not (pt_chain op_le op_le pe_int (pe_op op_add (pe_op op_sub (pv 2) (pv 1)) pe_int) (pe_op op_pow pe_int pe_int))))))
      (pss_one ps_never)
      pss_nil)
      (pss_cons (ps_if (pt_cmpR op_notN (pv 3) pe_non (nomark _))
      (pss_one (ps_if (PW.pt (pw_or (pt_not (pt_val (pe_call G_is_int_within (hr.mono (by first | decide | omega)) rfl T.is_int_within.mg T.is_int_within.kp T.is_int_within.b .nil pass0 (pa_cons (pv 3) (pa_cons pe_int (pa_cons pe_int pa_nil)))))) (pw_or1 (pt_cmpR op_lt (pe_op op_shl pe_int (pv 3)) (pe_op op_add (pe_op op_sub (pv 2) (pv 1)) pe_int) (nomark _)))))
      (pss_one ps_never)
      pss_nil))
      pss_nil)
      (pss_cons (ps_fld (pv 0) (pv 1) rfl)
      (pss_cons (ps_fld (pv 0) (pv 2) rfl)
      (pss_one (ps_fld (pv 0) (pv 3) rfl))))))), ?_⟩
    walk_at "go"
    refine ⟨_, rfl, .int _, _, rfl, i_no rfl ?_⟩
    walk_at "go"
    refine ⟨_, rfl, .int _, _, rfl, i_no rfl ?_⟩
    have e60 : (2 : Int) ^ Int.toNat 60 = 1152921504606846976 := by decide +kernel
    have cl := T.cl_Number
    have no : ∀ f ∈ fields, NoAttr K a.c_Number f := T.no_Number
    have fin : tSeq (sFld K (tVar 0) (tVar 1) "low") (tSeq (sFld K (tVar 0) (tVar 2) "high") (sFld K (tVar 0) (tVar 3) "width")) { nx := fun _ H' => Q .non H', rt := Q } (L2.start ["self", "low", "high", "width"] [.ref x, .int low, .int (low + m - 1), wdV wd]) H := by
      walk_at "go"
      refine i_sfld ?_
      walk_at "go"
      refine ⟨x, _, dx, [], rfl, hx, cl, no _ (by decide), by decide, ?_⟩
      walk_at "go"
      refine i_sfld ?_
      walk_at "go"
      refine ⟨x, _, dx, [("low", .int low)], rfl, upd_same, cl, no _ (by decide), (by show (1 : Nat) < 1000; decide), ?_⟩
      dsimp only
      refine i_sfld ?_
      walk_at "go"
      refine ⟨x, _, dx, [("low", .int low), ("high", .int (low + m - 1))], rfl, upd_same, cl, no _ (by decide), (by show (2 : Nat) < 1000; decide), ?_⟩
      refine k _ Kept.rfl'.upd.upd.upd ⟨⟨dx, ?_⟩, h1, h2, h3⟩
      rw [upd_same]
      cases wd <;> rfl
    walk_at "go"
    refine i_chain ?_
    walk_at "go"
    refine i_itd (fun q1 => ?_) (fun q1 => absurd (show (2 : Int) ≤ low + m - 1 - low + 1 by omega) q1)
    walk_at "go"
    refine i_itn (fun q2 => absurd (show low + (m : Int) - 1 - low + 1 ≤ 2 ^ Int.toNat 60 by omega) q2) (fun q2 => ?_)
    walk_at "go"
    cases wd with
    | none =>
      refine ⟨rfl, _, rfl, i_no rfl ?_⟩
      exact fin
    | some W =>
      obtain ⟨w1, w2, w3⟩ := h3 W rfl
      refine ⟨rfl, _, rfl, i_yes rfl ?_⟩
      walk_at "go"
      refine ⟨_, _, _, rfl, .int _, _, rfl, i_no (by show (!(decide ((1 : Int) ≤ W) && decide ((W : Int) ≤ 60))) = false; rw [decide_eq_true (by omega), decide_eq_true (by omega)]; rfl) ?_⟩
      walk_at "go"
      refine ⟨1, (W : Int), rfl, rfl, ⟨by omega, by omega, by decide⟩, ?_⟩
      walk_at "go"
      have ew : (1 : Int) * 2 ^ ((W : Int)).toNat = ((2 ^ W : Nat) : Int) := shl_one W
      rw [ew]
      have hm : ¬ ((2 ^ W : Nat) : Int) < low + m - 1 - low + 1 := by omega
      refine i_itd (fun q => absurd q hm) (fun _ => ?_)
      exact fin
end
end Me
set_option maxHeartbeats 8000000
namespace Me
open PySem L2


theorem pt_never {X : Cx} {e : Expr} : PT X e tNeverT := ⟨fun _ _ _ _ _ _ h => h.elim⟩
/-- a dict comprehension over a walk: Pv by the turn and the heap (the new dict at D within) -/
theorem dc_it {J : It} {n : Nat} {G : Hp → Prop} {Y : Nat → Hp → V → Hp → Prop} (w : Walk J n G Y) {g : TG} {tt : TT} {tk tv : TE} {vs : List Nat} {σ : L2.St} {H1 : Hp} {D : Addr} {Qd : Hp → Prop} (Pv : Nat → Hp → Prop) (h0 : Pv 0 (upd H1 D (.dK []))) (hG : ∀ i H, i ≤ n → Pv i H → G H)
    (hs : ∀ i x H H', i < n → Pv i H → Y i H x H' → g x (wipe σ vs) H' fun σ2 H2 => wipe σ2 vs = wipe σ vs ∧ tt σ2 H2 fun b H3 =>
      if b = true then tk σ2 H3 fun y H4 => tv σ2 H4 fun z H5 => ∃ kvs k, y = kV k ∧ H5 D = some (.dK kvs) ∧ kvs.length < sizeLine ∧ Pv (i + 1) (upd H5 D (.dK (putK kvs k z))) else Pv (i + 1) H3) (hd : ∀ H, Pv n H → Qd H) :
    ∃ W : Nat → Nat → Hp → Prop, (∃ m, W 0 m (upd H1 D (.dK []))) ∧ ∀ i m H, W i m H →
      (J.stop i H ∧ Qd H) ∨ (J.go i H ∧ ∃ Nx : Hp → Prop, (∀ H', Nx H' → ∃ m', m' < m ∧ W (i + 1) m' H') ∧ ∀ x H', J.yld i H x H' → g x (wipe σ vs) H' fun σ2 H2 => wipe σ2 vs = wipe σ vs ∧ tt σ2 H2 fun b H3 =>
        if b = true then tk σ2 H3 fun y H4 => tv σ2 H4 fun z H5 => ∃ kvs k, y = kV k ∧ H5 D = some (.dK kvs) ∧ kvs.length < sizeLine ∧ Nx (upd H5 D (.dK (putK kvs k z))) else Nx H3) := by
  refine ⟨fun i m H => m = n - i ∧ i ≤ n ∧ Pv i H, ⟨n, by simp, Nat.zero_le _, h0⟩, ?_⟩
  rintro i m H ⟨rfl, hi, p⟩
  have q := hG i H hi p
  by_cases hlt : i < n
  · refine .inr ⟨w.goes i H hlt q, Pv (i + 1), fun H' p' => ⟨n - (i + 1), by omega, rfl, hlt, p'⟩, fun x H' y => hs i x H H' hlt p (w.yields i H x H' hlt q y)⟩
  · have e : i = n := by omega
    subst e
    exact .inl ⟨w.stops H q, hd H p⟩
theorem mut_dK {kvs : List (Key × V)} : Mut (some (.dK kvs)) := trivial
section
variable {P : Program} {w : World} {K : PySem.W.Frag} {mg : Str → Option Value} {base : Heap} {a : Ad}
def spCalls (a : Ad) : Sp := fun vs H Q _ => ∃ (d p : Addr) (z : Str) (low high : Int) (wd : Option Nat), vs = [.ref d] ∧ H d = some (.dK [(.inr z, .ref p)]) ∧ NumAt a.c_Number H p low high wd ∧
  ∀ r l H', Same H H' → H' r = some (.dK [(.inr z, .ref l)]) → H' l = some (.lst []) → Q (.ref r) H'
theorem ok_checked_calls (T : Txt P K mg a) : FnOk P w K mg base CX0 3 a.checked_calls.f a.checked_calls.fd ["named"] (spCalls a) := by
  have G_called_names := ok_called_names (P := P) (w := w) (base := base) T
  have G_reached_names := ok_reached_names (P := P) (w := w) (base := base) T
  have sc : FnScope ["named", "calls", "name", "missing", "called", "reached", "rings"] ["named"] (defScope (top 48)) := ⟨rfl, rfl, rfl, by decide +kernel, rfl, by decide +kernel, by decide +kernel⟩
  refine T.checked_calls.ok sc (fun vs H Q E h => ?_) (fun cdv A outer s H vs Q E hr h => ?_)
  · obtain ⟨d, p, z, l, h2, wd, rfl, _⟩ := h; rfl
  · obtain ⟨d, p, z, l, h2, wd, rfl, hd, N, k⟩ := h
    refine ⟨_, (pss_cons (ps_set (i := 1) sc.nd rfl (by first | exact Or.inl rfl | exact Or.inr rfl) (pe_lock (pe_dc (own := [("name", 2)]) (g := gName 2) (by rfl) sc.nd (pi_keys (pv 0)) (blkOk_by (own := [("name", 2)]) (N := ["named", "calls", "name", "missing", "called", "reached", "rings"]) (sc := defScope (top 48)) (by decide +kernel)) (fun _ _ _ _ _ => pg_name (i := 2) sc.nd rfl (Or.inl rfl)) (fun _ _ _ _ _ => pts_nil) (fun _ _ _ _ _ => (by exact (pv 2))) (fun _ _ _ _ _ => (by exact (pe_call G_called_names (hr.mono (by first | decide | omega)) rfl T.called_names.mg T.called_names.kp T.called_names.b .nil pass0 (pa_cons (pe_dget (hu_of hr) (pv 0) (pv 2) (fun _ _ => rfl)) pa_nil)))))))
      (pss_cons (ps_set (i := 3) sc.nd rfl (by first | exact Or.inl rfl | exact Or.inr rfl) (pe_lst pa_nil))
      (pss_cons (ps_lock (ps_for PassesOwn.never rfl (pi_keys (pv 1)) (pg_name (i := 2) sc.nd rfl (by first | exact Or.inl rfl | exact Or.inr rfl))
      (pss_one (ps_expr (pe_bm PySem.F.plainAttrs_list PySem.F.slot_list_extend PySem.F.type_list_extend mt_extend (pv 3) (pa_cons (pe_lc (te := tVar 4) (own := [("called", 4)]) (g := gName 4) (by rfl) sc.nd (pi_list (pe_dget (hu_of hr) (pv 1) (pv 2) (fun _ _ => rfl))) (blkOk_by (own := [("called", 4)]) (N := ["named", "calls", "name", "missing", "called", "reached", "rings"]) (sc := defScope (top 48)) (by decide +kernel)) (fun _ _ _ _ _ => pg_name (i := 4) sc.nd rfl (Or.inl rfl)) (fun _ _ _ _ _ => (pts_one pt_never)) (fun _ _ _ _ _ => (by exact (pv 4)))) pa_nil))))))
      (pss_cons (ps_if (pt_cmpR (op_neD hr.units) (pv 3) (pe_lst pa_nil) (nomark _))
      (pss_one ps_never)
      pss_nil)
      (pss_cons (ps_set (i := 5) sc.nd rfl (by first | exact Or.inl rfl | exact Or.inr rfl) (pe_lock (pe_dc (own := [("name", 2)]) (g := gName 2) (by rfl) sc.nd (pi_keys (pv 1)) (blkOk_by (own := [("name", 2)]) (N := ["named", "calls", "name", "missing", "called", "reached", "rings"]) (sc := defScope (top 48)) (by decide +kernel)) (fun _ _ _ _ _ => pg_name (i := 2) sc.nd rfl (Or.inl rfl)) (fun _ _ _ _ _ => pts_nil) (fun _ _ _ _ _ => (by exact (pv 2))) (fun _ _ _ _ _ => (by exact (pe_call G_reached_names (hr.mono (by first | decide | omega)) rfl T.reached_names.mg T.reached_names.kp T.reached_names.b .nil pass0 (pa_cons (pv 1) (pa_cons (pv 2) pa_nil))))))))
      (pss_cons (ps_lock (ps_setLc (tt := tTest (tOp (rIn K false) (tVar 2) (tDGet (tVar 5) (tVar 2)))) (i := 6) (own := [("name", 2)]) (g := gName 2) (by rfl) sc.nd rfl rfl (sw_true rfl rfl rfl (by decide +kernel)) (pi_keys (pv 5)) (blkOk_by (own := [("name", 2)]) (N := ["named", "calls", "name", "missing", "called", "reached", "rings"]) (sc := defScope (top 48)) (by decide +kernel)) (fun _ _ _ _ _ => pg_name (i := 2) sc.nd rfl (Or.inl rfl)) (fun _ _ _ _ _ => (by exact (pts_one (pt_cmpR op_in_seq (pv 2) (pe_dget (hu_of hr) (pv 5) (pv 2) (fun _ _ => rfl)) (by rfl))))) (fun _ _ _ _ _ => (by exact (pv 2)))))
      (pss_cons (ps_if (pt_cmpR (op_neD hr.units) (pv 6) (pe_lst pa_nil) (nomark _))
      (pss_one ps_never)
      pss_nil)
      (pss_one (ps_ret (pv 5)))))))))), ?_⟩
    walk_at "go"
    have dp : p ≠ d := fun e => by
      obtain ⟨dx, e2⟩ := N
      rw [e, hd] at e2
      cases e2
    -- the first dict
    refine ⟨d, _, hd, mut_dK, fun od => ?_⟩
    refine ⟨_, rfl, d, od, rfl, .inl ⟨_, upd_same, fun D nD => ?_⟩⟩
    have nDd : D ≠ d := fun e => by rw [e, upd_same] at nD; cases nD
    have nD' : H D = none := by rw [upd_ne nDd] at nD; exact nD
    refine dc_it walk_keys (fun i H' => (∀ b o, upd H d (.frz od (.dK [(.inr z, .ref p)])) b = some o → H' b = some o) ∧ (i = 0 → H' D = some (.dK [])) ∧ (i = 1 → ∃ l, H' D = some (.dK [(.inr z, .ref l)]) ∧ H' l = some (.lst []))) ⟨fun b o e => by rw [upd_ne (ne_of_none e nD)]; exact e, fun _ => upd_same, fun e => absurd e (by decide)⟩ (fun i H' _ h => h.1 _ _ upd_same) (fun i x H1 H' hi h y => ?_) (fun H' h => ?_)
    · obtain ⟨rfl, k', v', ek, rfl⟩ := y
      have i0 : i = 0 := by simp at hi; omega
      subst i0
      cases ek
      obtain ⟨s1, s2, _⟩ := h
      refine ⟨rfl, ?_⟩
      refine ⟨_, rfl, ?_⟩
      refine ⟨_, rfl, _, rfl, d, .ref p, rfl, .inl ⟨_, .inr z, .inr ⟨_, s1 _ _ upd_same⟩, rfl, val_one.symm⟩, ?_⟩
      refine Me.i_nil ⟨p, l, h2, wd, rfl, ?_, fun l' H2 nl sH hl => ?_⟩
      · obtain ⟨dx, e⟩ := N
        exact ⟨dx, s1 _ _ (by rw [upd_ne dp]; exact e)⟩
      · have hD := sH _ _ (s2 rfl)
        refine ⟨[], .inr z, rfl, hD, by decide, fun b o e => ?_, fun e => absurd e (by decide), fun _ => ⟨l', ?_, ?_⟩⟩
        · have bD : b ≠ D := ne_of_none e nD
          rw [upd_ne bD]
          exact sH _ _ (s1 _ _ e)
        · rw [upd_same]
          rfl
        · rw [upd_ne (ne_of hl hD (by intro z; cases z))]
          exact hl
    · obtain ⟨s1, _, s2⟩ := h
      obtain ⟨l1, hD, hl1⟩ := s2 rfl
      have hfr := s1 _ _ upd_same
      refine ⟨hfr, ?_⟩
      have sA : Same H (upd H' d (.dK [(.inr z, .ref p)])) := fun b o e => by
        by_cases q : b = d
        · subst q; rw [upd_same, ← hd]; exact e
        · rw [upd_ne q]; exact s1 _ _ (by rw [upd_ne q]; exact e)
      have hD1 : upd H' d (.dK [(.inr z, .ref p)]) D = some (.dK [(.inr z, .ref l1)]) := by rw [upd_ne nDd]; exact hD
      have hl2 : upd H' d (.dK [(.inr z, .ref p)]) l1 = some (.lst []) := by
        rw [upd_ne (fun e => by rw [e, hfr] at hl1; cases hl1)]; exact hl1
      generalize upd H' d (.dK [(.inr z, .ref p)]) = G at sA hD1 hl2 ⊢
      walk_at "go"
      rename_i mi nmi
      have sB := same_upd (o := .lst []) nmi
      -- missing
      refine ⟨D, _, sB _ _ hD1, mut_dK, fun od2 => ?_⟩
      refine ⟨_, rfl, D, od2, rfl, .inl ⟨_, upd_same, ?_⟩⟩
      have hmiG : upd G mi (.lst []) mi = some (.lst []) := upd_same
      have hl3 : upd G mi (.lst []) l1 = some (.lst []) := sB _ _ hl2
      have hD3 : upd G mi (.lst []) D = some (.dK [(.inr z, .ref l1)]) := sB _ _ hD1
      have sC : Same H (upd G mi (.lst [])) := fun b o e => sB b o (sA b o e)
      generalize upd G mi (.lst []) = G2 at hmiG hl3 hD3 sC ⊢
      refine for_it walk_keys (fun i σ' H' => (∃ v2, σ' = [some (.ref d), some (.ref D), v2, some (.ref mi), none, none, none]) ∧ Same (upd G2 D (.frz od2 (.dK [(.inr z, .ref l1)]))) H') ⟨⟨none, rfl⟩, fun _ _ e => e⟩ (fun i σ' H' _ h => h.2 _ _ upd_same) (fun i x σ' H1 H2 hi h y => ?_) (fun σ' H2 h => ?_)
      · obtain ⟨rfl, k', v', ek, rfl⟩ := y
        have i0 : i = 0 := by simp at hi; omega
        subst i0
        cases ek
        obtain ⟨⟨v2, rfl⟩, s1⟩ := h
        have hmi := s1 _ _ (show upd G2 D _ mi = _ from (by rw [upd_ne (ne_of hmiG hD3 (by intro z; cases z))]; exact hmiG))
        have hl := s1 _ _ (show upd G2 D _ l1 = _ from (by rw [upd_ne (ne_of hl3 hD3 (by intro z; cases z))]; exact hl3))
        have hfr := s1 _ _ upd_same
        refine ⟨_, rfl, .inl ⟨rfl, _, SqL.of hmi⟩, ?_⟩
        refine ⟨_, rfl, _, rfl, D, .ref l1, rfl, .inl ⟨_, .inr z, .inr ⟨_, hfr⟩, rfl, val_one.symm⟩, ?_⟩
        refine ⟨l1, rfl, ⟨_, SqL.of hl⟩, fun D2 nD2 => ?_⟩
        refine lc_list (K := K) (a := l1) (xs := []) (fun i H' => H' = upd H2 D2 (.lst [])) rfl (fun i H' _ h => ?_) (fun i x H' hx => ?_) (fun H' h => ?_)
        · rw [h]; exact SqL.of (same_upd nD2 _ _ hl)
        · cases hx
        · subst h
          have s2 := same_upd (o := .lst []) nD2
          refine ⟨mi, D2, [], [], rfl, rfl, s2 _ _ hmi, upd_same, by decide, ⟨_, rfl⟩, fun b o e => ?_⟩
          by_cases q : b = mi
          · subst q
            rw [upd_same]
            have := s2 _ _ (s1 _ _ e)
            rw [s2 _ _ hmi] at this
            exact this
          · rw [upd_ne q]; exact s2 _ _ (s1 _ _ e)
      · obtain ⟨⟨v2, rfl⟩, s1⟩ := h
        have hfr := s1 _ _ upd_same
        refine ⟨hfr, ?_⟩
        have sD : Same G2 (upd H2 D (.dK [(.inr z, .ref l1)])) := fun b o e => by
          by_cases q : b = D
          · subst q; rw [upd_same, ← hD3]; exact e
          · rw [upd_ne q]; exact s1 _ _ (by rw [upd_ne q]; exact e)
        have sE : Same H (upd H2 D (.dK [(.inr z, .ref l1)])) := fun b o e => sD b o (sC b o e)
        have hmi := sD _ _ hmiG
        have hl := sD _ _ hl3
        have hD4 := sD _ _ hD3
        generalize upd H2 D (.dK [(.inr z, .ref l1)]) = G3 at sE hmi hl hD4 ⊢
        walk_at "go"
        rename_i e0 ne0
        refine ⟨.list [], .list [], .lst (SqL.of (same_upd ne0 _ _ hmi)) .nil, .lst (SqL.of upd_same) .nil, rfl, rfl, ?_⟩
        refine ⟨_, rfl, i_no rfl ?_⟩
        walk_at "go"
        have sF := same_upd (o := .lst []) ne0
        have hl := sF _ _ hl
        have hD4 := sF _ _ hD4
        have sG : Same H (upd G3 e0 (.lst [])) := fun b o e => sF b o (sE b o e)
        generalize upd G3 e0 (.lst []) = G4 at hl hD4 sG ⊢
        -- the second dict
        refine ⟨D, _, hD4, mut_dK, fun od3 => ?_⟩
        refine ⟨_, rfl, D, od3, rfl, .inl ⟨_, upd_same, fun R nR => ?_⟩⟩
        have nRD : R ≠ D := fun e => by rw [e, upd_same] at nR; cases nR
        refine dc_it walk_keys (fun i H' => (∀ b o, upd G4 D (.frz od3 (.dK [(.inr z, .ref l1)])) b = some o → H' b = some o) ∧ (i = 0 → H' R = some (.dK [])) ∧ (i = 1 → ∃ l, H' R = some (.dK [(.inr z, .ref l)]) ∧ H' l = some (.lst []))) ⟨fun b o e => by rw [upd_ne (ne_of_none e nR)]; exact e, fun _ => upd_same, fun e => absurd e (by decide)⟩ (fun i H' _ h => h.1 _ _ upd_same) (fun i x H1 H' hi h y => ?_) (fun H' h => ?_)
        · obtain ⟨rfl, k', v', ek, rfl⟩ := y
          have i0 : i = 0 := by simp at hi; omega
          subst i0
          cases ek
          obtain ⟨s1, s2, _⟩ := h
          refine ⟨rfl, ?_⟩
          refine ⟨_, rfl, ?_⟩
          refine ⟨_, rfl, _, rfl, D, l1, z, rfl, .inr ⟨_, s1 _ _ upd_same⟩, s1 _ _ (by rw [upd_ne (ne_of hl hD4 (by intro z; cases z))]; exact hl), fun l' H2 nl sH hl' => ?_⟩
          have hR := sH _ _ (s2 rfl)
          refine ⟨[], .inr z, rfl, hR, by decide, fun b o e => ?_, fun e => absurd e (by decide), fun _ => ⟨l', ?_, ?_⟩⟩
          · have bR : b ≠ R := ne_of_none e nR
            rw [upd_ne bR]
            exact sH _ _ (s1 _ _ e)
          · rw [upd_same]
            rfl
          · rw [upd_ne (ne_of hl' hR (by intro z; cases z))]
            exact hl'
        · obtain ⟨s1, _, s2⟩ := h
          obtain ⟨l3, hR, hl5⟩ := s2 rfl
          have hfr3 := s1 _ _ upd_same
          refine ⟨hfr3, ?_⟩
          have sK : Same H (upd H' D (.dK [(.inr z, .ref l1)])) := fun b o e => by
            have e := sG b o e
            by_cases q : b = D
            · subst q; rw [upd_same, ← hD4]; exact e
            · rw [upd_ne q]; exact s1 _ _ (by rw [upd_ne q]; exact e)
          have hR1 : upd H' D (.dK [(.inr z, .ref l1)]) R = some (.dK [(.inr z, .ref l3)]) := by rw [upd_ne nRD]; exact hR
          have hl6 : upd H' D (.dK [(.inr z, .ref l1)]) l3 = some (.lst []) := by
            rw [upd_ne (fun e => by rw [e, hfr3] at hl5; cases hl5)]; exact hl5
          generalize upd H' D (.dK [(.inr z, .ref l1)]) = G5 at sK hR1 hl6 ⊢
          walk_at "go"
          -- rings
          refine ⟨R, _, hR1, mut_dK, fun od4 => ?_⟩
          refine ⟨_, rfl, R, od4, rfl, .inl ⟨_, upd_same, fun L nL => ?_⟩⟩
          have s5 := same_upd (o := .lst []) nL
          refine lc_it walk_keys (fun i H' => Same (upd G5 R (.frz od4 (.dK [(.inr z, .ref l3)]))) H' ∧ H' L = some (.lst [])) ⟨s5, upd_same⟩ (fun i H' _ h => h.1 _ _ upd_same) (fun i x H1 H' hi h y => ?_) (fun H' h => ?_)
          · obtain ⟨rfl, k', v', ek, rfl⟩ := y
            have i0 : i = 0 := by simp at hi; omega
            subst i0
            cases ek
            obtain ⟨s6, hL⟩ := h
            refine ⟨rfl, ?_⟩
            refine ⟨_, rfl, _, rfl, _, rfl, R, .ref l3, rfl, .inl ⟨_, .inr z, .inr ⟨_, s6 _ _ upd_same⟩, rfl, val_one.symm⟩, ?_⟩
            refine ⟨l3, [], rfl, .inl (SqL.of (s6 _ _ (by rw [upd_ne (ne_of hl6 hR1 (by intro z; cases z))]; exact hl6))), rfl, rfl, _, rfl, i_no rfl ?_⟩
            exact ⟨s6, hL⟩
          · obtain ⟨s6, hL⟩ := h
            have hfr4 := s6 _ _ upd_same
            refine ⟨hfr4, ?_⟩
            have sM : Same G5 (upd H' R (.dK [(.inr z, .ref l3)])) := fun b o e => by
              by_cases q : b = R
              · subst q; rw [upd_same, ← hR1]; exact e
              · rw [upd_ne q]; exact s6 _ _ (by rw [upd_ne q]; exact e)
            have hL2 : upd H' R (.dK [(.inr z, .ref l3)]) L = some (.lst []) := by
              rw [upd_ne (fun e => by rw [e, hfr4] at hL; cases hL)]; exact hL
            generalize upd H' R (.dK [(.inr z, .ref l3)]) = G6 at sM hL2 ⊢
            walk_at "go"
            rename_i e1 ne1
            have s7 := same_upd (o := .lst []) ne1
            refine ⟨.list [], .list [], .lst (SqL.of (s7 _ _ hL2)) .nil, .lst (SqL.of upd_same) .nil, rfl, rfl, ?_⟩
            refine ⟨_, rfl, i_no rfl ?_⟩
            walk_at "go"
            exact k R l3 _ (fun b o e => s7 b o (sM b o (sK b o e))) (s7 _ _ (sM _ _ hR1)) (s7 _ _ (sM _ _ hl6))
end
end Me
set_option maxHeartbeats 8000000
namespace Me
open PySem L2


/-- a target that is an attribute -/
def gAttr (K : PySem.W.Frag) (ta : TE) (f : Str) : TG := fun v σ H Q => ta σ H fun x H2 => ∃ a C dx fs, x = .ref a ∧ H2 a = some (.ins C dx fs) ∧ Cls K C ∧ NoAttr K C f ∧ fs.length < 1000 ∧ Q σ (upd H2 a (.ins C dx (putF f v fs)))
theorem pg_attr {X : Cx} {o : Expr} {f : Str} {pos : Pos} {ta : TE} (ha : PE X o ta) : PG X (.Attribute o f pos) (gAttr X.K ta f) := by
  refine ⟨fun pins s σ H v u Q I r h => ?_⟩
  rw [assign_Attribute]
  refine wpAny_bind (wpAny_holding (thn (ha.run pins s σ H _ I h) fun ov s1 ⟨x, H1, I1, r1, a, C, dx, fs, ex, ea, c, n, l, q⟩ => ?_))
  subst ex
  obtain rfl : ov = Value.ref a := r1
  refine wpAny_bind (wpAny_standAt (wpAny_bind (wpAny_holding (setattr_ok I1 ea c n l r fun s2 I2 => ?_))))
  exact wpAny_release ⟨σ, _, I2, q⟩
inductive Sx where
  | run (x y : Nat)
  | whole
/-- a tight Number's next bit -/
def feedT (x y : Nat) (c : Bool) : Option Sx :=
  if x = 0 then some .whole else
  if x = 1 ∧ 0 < (if c = true then y - 2 ^ (x - 1) else min y (2 ^ (x - 1))) then some .whole else some (.run (x - 1) (if c = true then y - 2 ^ (x - 1) else min y (2 ^ (x - 1))))
/-- a wide one's -/
def feedW (x y : Nat) (c : Bool) : Option Sx :=
  if c = true ∧ y < 2 ^ (x - 1) then none else
  if x = 1 then some .whole else some (.run (x - 1) (if c = true then y - 2 ^ (x - 1) else min y (2 ^ (x - 1) - 1)))
def feedN (wd : Option Nat) (x y : Nat) (c : Bool) : Option Sx := match wd with
  | none => feedT x y c
  | some _ => feedW x y c
def owedN (wd : Option Nat) (x y : Nat) : Nat := match wd with
  | none => if 0 < y then x else x + 1
  | some _ => x
def st0 (m : Nat) (wd : Option Nat) : Nat × Nat := match wd with
  | none => (m.log2, shortN m)
  | some W => (W, m - 1)
/-- what a state keeps to -/
def okS (wd : Option Nat) (x y : Nat) : Prop := x ≤ 61 ∧ y ≤ 2 ^ 61 ∧ (wd ≠ none → 1 ≤ x)
def NdAt (a : Ad) (H : Hp) (p : Addr) (low : Int) (m : Nat) (wd : Option Nat) : Prop := match wd with
  | none => ∃ dx, H p = some (.ins a.c_TightNode dx [("low", .int low), ("size", .int (m.log2 : Int)), ("bar", .int (shortN m : Int)), ("least", .int (m.log2 : Int))])
  | some W => ∃ dx, H p = some (.ins a.c_WideNode dx [("low", .int low), ("top", .int ((m - 1 : Nat) : Int)), ("least", .int (W : Int))])
theorem NdAt.same {a : Ad} {H H' : Hp} {p : Addr} {low : Int} {m : Nat} {wd : Option Nat} (h : NdAt a H p low m wd) (s : Same H H') : NdAt a H' p low m wd := by
  cases wd with
  | none => obtain ⟨dx, e⟩ := h; exact ⟨dx, s _ _ e⟩
  | some W => obtain ⟨dx, e⟩ := h; exact ⟨dx, s _ _ e⟩
def FrAt (H : Hp) (st p : Addr) (x y : Nat) : Prop := ∃ fr, H st = some (.tup [.ref fr]) ∧ H fr = some (.tup [.ref p, .int (x : Int), .int (y : Int)])
def StkAt (H : Hp) (st p : Addr) : Sx → Prop
  | .run x y => FrAt H st p x y
  | .whole => H st = some (.tup [])
def ThAt (H : Hp) (th p : Addr) (s : Sx) : Prop := ∃ st, H th = some (.tup [.int (-1), .ref st]) ∧ StkAt H st p s
def ThsAt (H : Hp) (L p : Addr) : Option Sx → Prop
  | none => H L = some (.lst [])
  | some s => ∃ th, H L = some (.lst [.ref th]) ∧ ThAt H th p s
theorem StkAt.same {H H' : Hp} {st p : Addr} {s : Sx} (h : StkAt H st p s) (k : Same H H') : StkAt H' st p s := by
  cases s with
  | run x y => obtain ⟨fr, e1, e2⟩ := h; exact ⟨fr, k _ _ e1, k _ _ e2⟩
  | whole => exact k _ _ h
theorem ThAt.same {H H' : Hp} {th p : Addr} {s : Sx} (h : ThAt H th p s) (k : Same H H') : ThAt H' th p s := by
  obtain ⟨st, e, r⟩ := h
  exact ⟨st, k _ _ e, r.same k⟩
theorem ThsAt.same {H H' : Hp} {L p : Addr} {o : Option Sx} (h : ThsAt H L p o) (k : Same H H') : ThsAt H' L p o := by
  cases o with
  | none => exact k _ _ h
  | some s => obtain ⟨th, e, r⟩ := h; exact ⟨th, k _ _ e, r.same k⟩
theorem same_refl {H : Hp} : Same H H := fun _ _ e => e
theorem Same.new {H H' : Hp} {p : Addr} {o : HO} (k : Same H H') (n : H' p = none) : Same H (upd H' p o) := fun b u e => same_upd n b u (k b u e)
section
variable {P : Program} {w : World} {K : PySem.W.Frag} {mg : Str → Option Value} {base : Heap} {a : Ad}
def spTightI (a : Ad) : Sp := fun vs H Q _ => ∃ (x dx : Addr) (low : Int) (m : Nat), vs = [.ref x, .int low, .int (m : Int)] ∧ 2 ≤ m ∧ m ≤ 2 ^ 60 ∧ H x = some (.ins a.c_TightNode dx []) ∧ ∀ H', Kept H x H' → NdAt a H' x low m none → Q .non H'
theorem ok_tight_init (T : Txt P K mg a) : FnOk P w K mg base CX0 2 a.m_TightNode_init.f a.m_TightNode_init.fd ["self", "low", "many"] (spTightI a) := by
  have G_tight_code : FnOk P w K mg base CX0 1 a.tight_code.f a.tight_code.fd ["many"] spTight := ok_tight T
  have sc : FnScope ["self", "low", "many"] ["self", "low", "many"] (defScope (inClass (top 60) 0)) := ⟨rfl, rfl, rfl, by decide +kernel, rfl, by decide +kernel, by decide +kernel⟩
  refine ok0 T.m_TightNode_init sc (fun vs H Q E h => ?_) (fun cdv A outer s H vs Q E hr h => ?_)
  · obtain ⟨x, dx, low, m, rfl, _⟩ := h; rfl
  · obtain ⟨x, dx, low, m, rfl, h1, h2, hx, k⟩ := h
    refine ⟨_, (pss_cons (ps_fld (pv 0) (pv 1) rfl)
      (pss_cons (ps_asg (pe_call G_tight_code (hr.mono (by first | decide | omega)) rfl T.tight_code.mg T.tight_code.kp T.tight_code.b .nil pass0 (pa_cons (pv 2) pa_nil)) (pg_tup (by rfl) (pgs_cons (pg_attr (pv 0)) (pgs_cons (pg_attr (pv 0)) pgs_nil))))
      (pss_one (ps_fld (pv 0) (pe_fld (pv 0) rfl) rfl)))), ?_⟩
    have cl := T.cl_TightNode
    have no : ∀ f ∈ fields, NoAttr K a.c_TightNode f := T.no_TightNode
    walk_at "go"
    refine i_sfld ?_
    walk_at "go"
    refine ⟨x, _, dx, [], rfl, hx, cl, no _ (by decide), by decide, ?_⟩
    walk_at "go"
    refine ⟨m, rfl, h1, h2, fun t nt => ?_⟩
    have es : ((2 ^ (m.log2 + 1) : Nat) : Int) - (m : Int) = ((shortN m : Nat) : Int) := by
      have := log2_facts h1 h2
      unfold shortN; omega
    rw [es]
    have htx : x ≠ t := fun e => by rw [← e, upd_same] at nt; cases nt
    refine ⟨t, _, rfl, SqT.of upd_same, rfl, ?_⟩
    refine ⟨_, _, rfl, ?_⟩
    refine ⟨_, rfl, x, _, dx, _, rfl, (by rw [upd_ne htx]; exact upd_same), cl, no _ (by decide), (by show 1 < 1000; decide), ?_⟩
    refine ⟨_, _, rfl, ?_⟩
    refine ⟨_, rfl, x, _, dx, _, rfl, upd_same, cl, no _ (by decide), (by show 2 < 1000; decide), ?_⟩
    refine ⟨rfl, ?_⟩
    dsimp only
    refine i_sfld ?_
    refine ⟨_, rfl, x, _, dx, _, _, rfl, upd_same, cl, no _ (by decide), rfl, ?_⟩
    refine ⟨_, rfl, x, _, dx, _, rfl, upd_same, cl, no _ (by decide), (by show 3 < 1000; decide), ?_⟩
    refine k _ ?_ ⟨dx, ?_⟩
    · exact (((Kept.rfl'.upd).new nt).upd).upd.upd
    · rw [upd_same]; rfl
def spWideI (a : Ad) : Sp := fun vs H Q _ => ∃ (x dx : Addr) (low : Int) (m W : Nat), vs = [.ref x, .int low, .int (m : Int), .int (W : Int)] ∧ 2 ≤ m ∧ H x = some (.ins a.c_WideNode dx []) ∧ ∀ H', Kept H x H' → NdAt a H' x low m (some W) → Q .non H'
theorem ok_wide_init (T : Txt P K mg a) : FnOk P w K mg base CX0 1 a.m_WideNode_init.f a.m_WideNode_init.fd ["self", "low", "many", "width"] (spWideI a) := by
  have sc : FnScope ["self", "low", "many", "width"] ["self", "low", "many", "width"] (defScope (inClass (top 61) 0)) := ⟨rfl, rfl, rfl, by decide +kernel, rfl, by decide +kernel, by decide +kernel⟩
  refine ok0 T.m_WideNode_init sc (fun vs H Q E h => ?_) (fun cdv A outer s H vs Q E hr h => ?_)
  · obtain ⟨x, dx, low, m, W, rfl, _⟩ := h; rfl
  · obtain ⟨x, dx, low, m, W, rfl, h1, hx, k⟩ := h
    refine ⟨_, (pss_cons (ps_fld (pv 0) (pv 1) rfl)
      (pss_cons (ps_fld (pv 0) (pe_op op_sub (pv 2) pe_int) rfl)
      (pss_one (ps_fld (pv 0) (pv 3) rfl)))), ?_⟩
    have cl := T.cl_WideNode
    have no : ∀ f ∈ fields, NoAttr K a.c_WideNode f := T.no_WideNode
    walk_at "go"
    refine i_sfld ?_
    walk_at "go"
    refine ⟨x, _, dx, [], rfl, hx, cl, no _ (by decide), by decide, ?_⟩
    walk_at "go"
    refine i_sfld ?_
    walk_at "go"
    refine ⟨x, _, dx, _, rfl, upd_same, cl, no _ (by decide), (by show 1 < 1000; decide), ?_⟩
    dsimp only
    refine i_sfld ?_
    walk_at "go"
    refine ⟨x, _, dx, _, rfl, upd_same, cl, no _ (by decide), (by show 2 < 1000; decide), ?_⟩
    refine k _ Kept.rfl'.upd.upd.upd ⟨dx, ?_⟩
    rw [upd_same, show (m : Int) - 1 = ((m - 1 : Nat) : Int) by omega]
    rfl
def spEnded : Sp := fun vs H Q _ => ∃ bl : Addr, vs = [.int (-1), .ref bl] ∧ H bl = some (.tup []) ∧ ∀ L p H', Same H H' → ThsAt H' L p (some .whole) → Q (.ref L) H'
theorem ok_ended (T : Txt P K mg a) : FnOk P w K mg base CX0 1 a.ended.f a.ended.fd ["left", "below"] spEnded := by
  have sc : FnScope ["left", "below", "node", "a", "b"] ["left", "below"] (defScope (top 58)) := ⟨rfl, rfl, rfl, by decide +kernel, rfl, by decide +kernel, by decide +kernel⟩
  refine T.ended.ok sc (fun vs H Q E h => ?_) (fun cdv A outer s H vs Q E hr h => ?_)
  · obtain ⟨bl, rfl, _⟩ := h; rfl
  · obtain ⟨bl, rfl, hb, k⟩ := h
    refine ⟨_, (pss_cons (ps_if (pt_cmpR (op_eqT0 (Nat.lt_of_le_of_lt (Nat.le_add_right _ 64) hr.units)) (pv 1) (pe_tup pa_nil) (nomark _))
      (pss_one (ps_ret (pe_lst (pa_cons (pe_tup (pa_cons (pv 0) (pa_cons (pe_tup pa_nil) pa_nil))) pa_nil))))
      pss_nil)
      (pss_cons ps_never
      (pss_one ps_never))), ?_⟩
    walk_at "go"
    rename_i e0 ne0
    refine ⟨bl, e0, [], rfl, rfl, SqT.of (same_upd ne0 _ _ hb), SqT.of upd_same, ?_⟩
    refine ⟨_, rfl, i_yes rfl ?_⟩
    walk_at "go"
    rename_i e1 ne1 e2 ne2 e3 ne3
    have s3 := same_upd (o := .lst [.ref e2]) ne3
    refine k e3 bl _ ((((same_refl.new ne0).new ne1).new ne2).new ne3) ⟨e2, upd_same, e1, s3 _ _ upd_same, s3 _ _ (same_upd ne2 _ _ upd_same)⟩
end
end Me
set_option maxHeartbeats 8000000
namespace Me
open PySem L2


def bitC (c : Bool) : Str := if c = true then "1" else "0"
def ToldAt (H : Hp) (v : V) : Prop := v = .non ∨ ∃ r i, v = .ref r ∧ H r = some (.tup [.str "number", .int i])
section
variable {P : Program} {w : World} {K : PySem.W.Frag} {mg : Str → Option Value} {base : Heap} {a : Ad}
def spBegin (a : Ad) (wd : Option Nat) : Sp := fun vs H Q _ => ∃ (p bl : Addr) (low : Int) (m : Nat), vs = [.ref p, .int (-1), .ref bl] ∧ NdAt a H p low m wd ∧ H bl = some (.tup []) ∧ ∀ L H', Same H H' → ThsAt H' L p (some (.run (st0 m wd).1 (st0 m wd).2)) → Q (.ref L) H'
theorem ok_tight_begin (T : Txt P K mg a) : FnOk P w K mg base CX0 1 a.m_TightNode_begin.f a.m_TightNode_begin.fd ["self", "left", "below"] (spBegin a none) := by
  have sc : FnScope ["self", "left", "below"] ["self", "left", "below"] (defScope (inClass (top 60) 1)) := ⟨rfl, rfl, rfl, by decide +kernel, rfl, by decide +kernel, by decide +kernel⟩
  refine ok0 T.m_TightNode_begin sc (fun vs H Q E h => ?_) (fun cdv A outer s H vs Q E hr h => ?_)
  · obtain ⟨p, bl, low, m, rfl, _⟩ := h; rfl
  · obtain ⟨p, bl, low, m, rfl, ⟨dx, hp⟩, hb, k⟩ := h
    refine ⟨_, (pss_one (ps_ret (pe_lst (pa_cons (pe_tup (pa_cons (pv 1) (pa_cons (pe_op op_catA (pv 2) (pe_tup (pa_cons (pe_tup (pa_cons (pv 0) (pa_cons (pe_fld (pv 0) rfl) (pa_cons (pe_fld (pv 0) rfl) pa_nil)))) pa_nil))) pa_nil))) pa_nil)))), ?_⟩
    have cl := T.cl_TightNode
    have no : ∀ f ∈ fields, NoAttr K a.c_TightNode f := T.no_TightNode
    walk_at "go"
    refine i_fld1 rfl hp cl (no _ (by decide)) rfl ?_
    walk_at "go"
    refine i_fld1 rfl hp cl (no _ (by decide)) rfl ?_
    walk_at "go"
    rename_i fr nfr st nst
    have s2 := (same_refl.new (o := .tup [.ref p, .int (m.log2 : Int), .int (shortN m : Int)]) nfr).new (o := .tup [.ref fr]) nst
    refine ⟨bl, st, [], [.ref fr], rfl, rfl, SqT.of (s2 _ _ hb), SqT.of upd_same, (by show 1 ≤ sizeLine; decide), fun _ => ?_, fun z => absurd rfl z, fun z => absurd rfl z⟩
    walk_at "go"
    rename_i th nth L nL
    have s3 := (same_refl.new (o := .tup [.int (-1), .ref st]) nth).new (o := .lst [.ref th]) nL
    refine k L _ (fun b o e => s3 b o (s2 b o e)) ⟨th, upd_same, st, same_upd nL _ _ upd_same, fr, s3 _ _ upd_same, s3 _ _ (same_upd nst _ _ upd_same)⟩
theorem ok_wide_begin (W : Nat) (T : Txt P K mg a) : FnOk P w K mg base CX0 1 a.m_WideNode_begin.f a.m_WideNode_begin.fd ["self", "left", "below"] (spBegin a (some W)) := by
  have sc : FnScope ["self", "left", "below"] ["self", "left", "below"] (defScope (inClass (top 61) 1)) := ⟨rfl, rfl, rfl, by decide +kernel, rfl, by decide +kernel, by decide +kernel⟩
  refine ok0 T.m_WideNode_begin sc (fun vs H Q E h => ?_) (fun cdv A outer s H vs Q E hr h => ?_)
  · obtain ⟨p, bl, low, m, rfl, _⟩ := h; rfl
  · obtain ⟨p, bl, low, m, rfl, ⟨dx, hp⟩, hb, k⟩ := h
    refine ⟨_, (pss_one (ps_ret (pe_lst (pa_cons (pe_tup (pa_cons (pv 1) (pa_cons (pe_op op_catA (pv 2) (pe_tup (pa_cons (pe_tup (pa_cons (pv 0) (pa_cons (pe_fld (pv 0) rfl) (pa_cons (pe_fld (pv 0) rfl) pa_nil)))) pa_nil))) pa_nil))) pa_nil)))), ?_⟩
    have cl := T.cl_WideNode
    have no : ∀ f ∈ fields, NoAttr K a.c_WideNode f := T.no_WideNode
    walk_at "go"
    refine i_fld1 rfl hp cl (no _ (by decide)) rfl ?_
    walk_at "go"
    refine i_fld1 rfl hp cl (no _ (by decide)) rfl ?_
    walk_at "go"
    rename_i fr nfr st nst
    have s2 := (same_refl.new (o := .tup [.ref p, .int (W : Int), .int ((m - 1 : Nat) : Int)]) nfr).new (o := .tup [.ref fr]) nst
    refine ⟨bl, st, [], [.ref fr], rfl, rfl, SqT.of (s2 _ _ hb), SqT.of upd_same, (by show 1 ≤ sizeLine; decide), fun _ => ?_, fun z => absurd rfl z, fun z => absurd rfl z⟩
    walk_at "go"
    rename_i th nth L nL
    have s3 := (same_refl.new (o := .tup [.int (-1), .ref st]) nth).new (o := .lst [.ref th]) nL
    refine k L _ (fun b o e => s3 b o (s2 b o e)) ⟨th, upd_same, st, same_upd nL _ _ upd_same, fr, s3 _ _ upd_same, s3 _ _ (same_upd nst _ _ upd_same)⟩
def spOwed (a : Ad) (wd : Option Nat) : Sp := fun vs H Q _ => ∃ (p : Addr) (x y : Nat), vs = [.ref p, .int (x : Int), .int (y : Int)] ∧ Q (.int (owedN wd x y : Int)) H
theorem ok_tight_owed (T : Txt P K mg a) : FnOk P w K mg base CX0 1 a.m_TightNode_owed.f a.m_TightNode_owed.fd ["self", "a", "b"] (spOwed a none) := by
  have sc : FnScope ["self", "a", "b"] ["self", "a", "b"] (defScope (inClass (top 60) 2)) := ⟨rfl, rfl, rfl, by decide +kernel, rfl, by decide +kernel, by decide +kernel⟩
  refine ok0 T.m_TightNode_owed sc (fun vs H Q E h => ?_) (fun cdv A outer s H vs Q E hr h => ?_)
  · obtain ⟨p, x, y, rfl, _⟩ := h; rfl
  · obtain ⟨p, x, y, rfl, k⟩ := h
    refine ⟨_, (pss_one (ps_ret (pe_ifExp (pt_cmpR op_gt (pv 2) pe_int (nomark _)) (pv 1) (pe_op op_add (pv 1) pe_int)))), ?_⟩
    walk_at "go"
    refine i_itd (fun q => ?_) (fun q => ?_)
    · walk_at "go"
      have e : owedN none x y = x := if_pos (by omega)
      rw [e] at k
      exact k
    · walk_at "go"
      have e : owedN none x y = x + 1 := if_neg (by omega)
      rw [e] at k
      exact k
theorem ok_wide_owed (W : Nat) (T : Txt P K mg a) : FnOk P w K mg base CX0 1 a.m_WideNode_owed.f a.m_WideNode_owed.fd ["self", "a", "b"] (spOwed a (some W)) := by
  have sc : FnScope ["self", "a", "b"] ["self", "a", "b"] (defScope (inClass (top 61) 2)) := ⟨rfl, rfl, rfl, by decide +kernel, rfl, by decide +kernel, by decide +kernel⟩
  refine ok0 T.m_WideNode_owed sc (fun vs H Q E h => ?_) (fun cdv A outer s H vs Q E hr h => ?_)
  · obtain ⟨p, x, y, rfl, _⟩ := h; rfl
  · obtain ⟨p, x, y, rfl, k⟩ := h
    refine ⟨_, (pss_one (ps_ret (pv 1))), ?_⟩
    walk_at "go"
    exact k
def spFeed (a : Ad) (wd : Option Nat) : Sp := fun vs H Q _ => ∃ (p bl : Addr) (low : Int) (m x y : Nat) (c : Bool), vs = [.ref p, .int (-1), .ref bl, .int (x : Int), .int (y : Int), .str (bitC c)] ∧ NdAt a H p low m wd ∧ H bl = some (.tup []) ∧ okS wd x y ∧
  ∀ t L told H', Same H H' → H' t = some (.tup [.ref L, told]) → ThsAt H' L p (feedN wd x y c) → ToldAt H' told → Q (.ref t) H'
theorem ok_tight_feed (T : Txt P K mg a) : FnOk P w K mg base CX0 2 a.m_TightNode_feed.f a.m_TightNode_feed.fd ["self", "left", "below", "a", "b", "bit"] (spFeed a none) := by
  have G_ended : FnOk P w K mg base CX0 1 a.ended.f a.ended.fd ["left", "below"] spEnded := ok_ended T
  have sc : FnScope ["self", "left", "below", "a", "b", "bit", "half", "short"] ["self", "left", "below", "a", "b", "bit"] (defScope (inClass (top 60) 3)) := ⟨rfl, rfl, rfl, by decide +kernel, rfl, by decide +kernel, by decide +kernel⟩
  refine ok0 T.m_TightNode_feed sc (fun vs H Q E h => ?_) (fun cdv A outer s H vs Q E hr h => ?_)
  · obtain ⟨p, bl, low, m, x, y, c, rfl, _⟩ := h; rfl
  · obtain ⟨p, bl, low, m, x, y, c, rfl, ⟨dx, hp⟩, hb, ok, k⟩ := h
    refine ⟨_, (pss_cons (ps_if (pt_cmpR op_eq (pv 3) pe_int (nomark _))
      (pss_one (ps_ret (pe_tup (pa_cons (pe_call G_ended (hr.mono (by first | decide | omega)) rfl T.ended.mg T.ended.kp T.ended.b .nil pass0 (pa_cons (pv 1) (pa_cons (pv 2) pa_nil))) (pa_cons (pe_tup (pa_cons pe_str (pa_cons (pe_op op_sub (pe_fld (pv 0) rfl) (pe_fld (pv 0) rfl)) pa_nil))) pa_nil)))))
      pss_nil)
      (pss_cons (ps_set (i := 6) sc.nd rfl (by first | exact Or.inl rfl | exact Or.inr rfl) (pe_op op_shl pe_int (pe_op op_sub (pv 3) pe_int)))
      (pss_cons (ps_set (i := 7) sc.nd rfl (by first | exact Or.inl rfl | exact Or.inr rfl) (pe_ifExp (pt_cmpR op_eq (pv 5) pe_str (nomark _)) (pe_callB (call_max2 rfl) (by rfl) T.max (by decide +kernel) (pa_cons (pe_op op_sub (pv 4) (pv 6)) (pa_cons pe_int pa_nil))) (pe_callB (call_min2 rfl) (by rfl) T.min (by decide +kernel) (pa_cons (pv 4) (pa_cons (pv 6) pa_nil)))))
      (pss_cons (ps_if (PW.pt (pw_and (pt_cmpR op_eq (pv 3) pe_int (nomark _)) (pw_and1 (pt_cmpR op_gt (pv 7) pe_int (nomark _)))))
      (pss_one (ps_ret (pe_tup (pa_cons (pe_call G_ended (hr.mono (by first | decide | omega)) rfl T.ended.mg T.ended.kp T.ended.b .nil pass0 (pa_cons (pv 1) (pa_cons (pv 2) pa_nil))) (pa_cons (pe_tup (pa_cons pe_str (pa_cons (pe_fld (pv 0) rfl) pa_nil))) pa_nil)))))
      pss_nil)
      (pss_one (ps_ret (pe_tup (pa_cons (pe_lst (pa_cons (pe_tup (pa_cons (pv 1) (pa_cons (pe_op op_catA (pv 2) (pe_tup (pa_cons (pe_tup (pa_cons (pv 0) (pa_cons (pe_op op_sub (pv 3) pe_int) (pa_cons (pv 7) pa_nil)))) pa_nil))) pa_nil))) pa_nil)) (pa_cons pe_non pa_nil))))))))), ?_⟩
    have cl := T.cl_TightNode
    have no : ∀ f ∈ fields, NoAttr K a.c_TightNode f := T.no_TightNode
    walk_at "go"
    refine i_itei (fun q => ?_) (fun q => ?_)
    · walk_at "go"
      refine ⟨bl, rfl, hb, fun L p' H1 s1 th => ?_⟩
      dsimp only
      walk_at "go"
      refine i_fld1 rfl (s1 _ _ hp) cl (no _ (by decide)) rfl ?_
      walk_at "go"
      refine i_fld1 rfl (s1 _ _ hp) cl (no _ (by decide)) rfl ?_
      walk_at "go"
      rename_i r nr t nt
      have s2 := (same_refl.new (o := .tup [.str "number", .int (low - (shortN m : Int))]) nr).new (o := .tup [.ref L, .ref r]) nt
      have x0 : x = 0 := by omega
      subst x0
      exact k t L (.ref r) _ (fun b o e => s2 b o (s1 b o e)) upd_same (ThsAt.same (o := some .whole) th s2) (.inr ⟨r, _, rfl, same_upd nt _ _ upd_same⟩)
    · have hx : 1 ≤ x := by omega
      obtain ⟨k1, k2, _⟩ := ok
      walk_at "go"
      have hf : (1 : Int) * 2 ^ ((x : Int) - 1).toNat = ((2 ^ (x - 1) : Nat) : Int) := by
        rw [show (x : Int) - 1 = ((x - 1 : Nat) : Int) by omega]
        exact shl_one (x - 1)
      rw [hf]
      generalize hh : 2 ^ (x - 1) = hN
      cases c with
      | true =>
        refine i_yes (by decide +kernel) ?_
        have fe : feedT x y true = (if x = 1 ∧ 0 < y - hN then some .whole else some (.run (x - 1) (y - hN))) := by
          rw [← hh]; exact if_neg (by omega)
        have eN : (if (0 : Int) > (y : Int) - (hN : Int) then (0 : Int) else (y : Int) - (hN : Int)) = ((y - hN : Nat) : Int) := by split <;> omega
        walk_at "go"
        refine ⟨_, _, rfl, ?_⟩
        rw [eN]
        have k : ∀ (t L : Addr) (told : V) (H' : Hp), Same H H' → H' t = some (.tup [.ref L, told]) → ThsAt H' L p (feedT x y true) → ToldAt H' told → Q (.ref t) H' := k
        generalize y - hN = sN at fe ⊢
        walk_at "go"
        refine i_itei (fun q1 => ?_) (fun q1 => ?_)
        · walk_at "go"
          refine i_itd (fun q2 => ?_) (fun q2 => ?_)
          · walk_at "go"
            refine ⟨bl, rfl, hb, fun L p' H1 s1 th => ?_⟩
            dsimp only
            walk_at "go"
            refine i_fld1 rfl (s1 _ _ hp) cl (no _ (by decide)) rfl ?_
            walk_at "go"
            rename_i r nr t nt
            have s2 := (same_refl.new (o := .tup [.str "number", .int low]) nr).new (o := .tup [.ref L, .ref r]) nt
            rw [fe, if_pos ⟨by omega, by omega⟩] at k
            exact k t L (.ref r) _ (fun b o e => s2 b o (s1 b o e)) upd_same (ThsAt.same (o := some .whole) th s2) (.inr ⟨r, _, rfl, same_upd nt _ _ upd_same⟩)
          · rw [fe, if_neg (fun z => q2 (by omega))] at k
            walk_at "go"
            rename_i fr nfr st nst
            have s2 := (same_refl.new (o := .tup [.ref p, .int ((x : Int) - 1), .int (sN : Int)]) nfr).new (o := .tup [.ref fr]) nst
            refine ⟨bl, st, [], [.ref fr], rfl, rfl, SqT.of (s2 _ _ hb), SqT.of upd_same, (by show 1 ≤ sizeLine; decide), fun _ => ?_, fun z => absurd rfl z, fun z => absurd rfl z⟩
            walk_at "go"
            rename_i th nth L nL t nt
            have s3 := ((same_refl.new (o := .tup [.int (-1), .ref st]) nth).new (o := .lst [.ref th]) nL).new (o := .tup [.ref L, .non]) nt
            refine k t L .non _ (fun b o e => s3 b o (s2 b o e)) upd_same ⟨th, same_upd nt _ _ upd_same, st, same_upd nt _ _ (same_upd nL _ _ upd_same), fr, s3 _ _ upd_same, ?_⟩ (.inl rfl)
            rw [show ((x - 1 : Nat) : Int) = (x : Int) - 1 by omega]
            exact s3 _ _ (same_upd nst _ _ upd_same)
        · rw [fe, if_neg (fun z => q1 (by omega))] at k
          walk_at "go"
          rename_i fr nfr st nst
          have s2 := (same_refl.new (o := .tup [.ref p, .int ((x : Int) - 1), .int (sN : Int)]) nfr).new (o := .tup [.ref fr]) nst
          refine ⟨bl, st, [], [.ref fr], rfl, rfl, SqT.of (s2 _ _ hb), SqT.of upd_same, (by show 1 ≤ sizeLine; decide), fun _ => ?_, fun z => absurd rfl z, fun z => absurd rfl z⟩
          walk_at "go"
          rename_i th nth L nL t nt
          have s3 := ((same_refl.new (o := .tup [.int (-1), .ref st]) nth).new (o := .lst [.ref th]) nL).new (o := .tup [.ref L, .non]) nt
          refine k t L .non _ (fun b o e => s3 b o (s2 b o e)) upd_same ⟨th, same_upd nt _ _ upd_same, st, same_upd nt _ _ (same_upd nL _ _ upd_same), fr, s3 _ _ upd_same, ?_⟩ (.inl rfl)
          rw [show ((x - 1 : Nat) : Int) = (x : Int) - 1 by omega]
          exact s3 _ _ (same_upd nst _ _ upd_same)
      | false =>
        refine i_no (by decide +kernel) ?_
        have fe : feedT x y false = (if x = 1 ∧ 0 < min y hN then some .whole else some (.run (x - 1) (min y hN))) := by
          rw [← hh]; exact if_neg (by omega)
        have eN : (if (hN : Int) < (y : Int) then (hN : Int) else (y : Int)) = ((min y hN : Nat) : Int) := by split <;> omega
        walk_at "go"
        refine ⟨_, _, rfl, ?_⟩
        rw [eN]
        have k : ∀ (t L : Addr) (told : V) (H' : Hp), Same H H' → H' t = some (.tup [.ref L, told]) → ThsAt H' L p (feedT x y false) → ToldAt H' told → Q (.ref t) H' := k
        generalize min y hN = sN at fe ⊢
        walk_at "go"
        refine i_itei (fun q1 => ?_) (fun q1 => ?_)
        · walk_at "go"
          refine i_itd (fun q2 => ?_) (fun q2 => ?_)
          · walk_at "go"
            refine ⟨bl, rfl, hb, fun L p' H1 s1 th => ?_⟩
            dsimp only
            walk_at "go"
            refine i_fld1 rfl (s1 _ _ hp) cl (no _ (by decide)) rfl ?_
            walk_at "go"
            rename_i r nr t nt
            have s2 := (same_refl.new (o := .tup [.str "number", .int low]) nr).new (o := .tup [.ref L, .ref r]) nt
            rw [fe, if_pos ⟨by omega, by omega⟩] at k
            exact k t L (.ref r) _ (fun b o e => s2 b o (s1 b o e)) upd_same (ThsAt.same (o := some .whole) th s2) (.inr ⟨r, _, rfl, same_upd nt _ _ upd_same⟩)
          · rw [fe, if_neg (fun z => q2 (by omega))] at k
            walk_at "go"
            rename_i fr nfr st nst
            have s2 := (same_refl.new (o := .tup [.ref p, .int ((x : Int) - 1), .int (sN : Int)]) nfr).new (o := .tup [.ref fr]) nst
            refine ⟨bl, st, [], [.ref fr], rfl, rfl, SqT.of (s2 _ _ hb), SqT.of upd_same, (by show 1 ≤ sizeLine; decide), fun _ => ?_, fun z => absurd rfl z, fun z => absurd rfl z⟩
            walk_at "go"
            rename_i th nth L nL t nt
            have s3 := ((same_refl.new (o := .tup [.int (-1), .ref st]) nth).new (o := .lst [.ref th]) nL).new (o := .tup [.ref L, .non]) nt
            refine k t L .non _ (fun b o e => s3 b o (s2 b o e)) upd_same ⟨th, same_upd nt _ _ upd_same, st, same_upd nt _ _ (same_upd nL _ _ upd_same), fr, s3 _ _ upd_same, ?_⟩ (.inl rfl)
            rw [show ((x - 1 : Nat) : Int) = (x : Int) - 1 by omega]
            exact s3 _ _ (same_upd nst _ _ upd_same)
        · rw [fe, if_neg (fun z => q1 (by omega))] at k
          walk_at "go"
          rename_i fr nfr st nst
          have s2 := (same_refl.new (o := .tup [.ref p, .int ((x : Int) - 1), .int (sN : Int)]) nfr).new (o := .tup [.ref fr]) nst
          refine ⟨bl, st, [], [.ref fr], rfl, rfl, SqT.of (s2 _ _ hb), SqT.of upd_same, (by show 1 ≤ sizeLine; decide), fun _ => ?_, fun z => absurd rfl z, fun z => absurd rfl z⟩
          walk_at "go"
          rename_i th nth L nL t nt
          have s3 := ((same_refl.new (o := .tup [.int (-1), .ref st]) nth).new (o := .lst [.ref th]) nL).new (o := .tup [.ref L, .non]) nt
          refine k t L .non _ (fun b o e => s3 b o (s2 b o e)) upd_same ⟨th, same_upd nt _ _ upd_same, st, same_upd nt _ _ (same_upd nL _ _ upd_same), fr, s3 _ _ upd_same, ?_⟩ (.inl rfl)
          rw [show ((x - 1 : Nat) : Int) = (x : Int) - 1 by omega]
          exact s3 _ _ (same_upd nst _ _ upd_same)
end
end Me
set_option maxHeartbeats 8000000
namespace Me
open PySem L2


section
variable {P : Program} {w : World} {K : PySem.W.Frag} {mg : Str → Option Value} {base : Heap} {a : Ad}
theorem ok_wide_feed (W : Nat) (T : Txt P K mg a) : FnOk P w K mg base CX0 2 a.m_WideNode_feed.f a.m_WideNode_feed.fd ["self", "left", "below", "a", "b", "bit"] (spFeed a (some W)) := by
  have G_ended : FnOk P w K mg base CX0 1 a.ended.f a.ended.fd ["left", "below"] spEnded := ok_ended T
  have sc : FnScope ["self", "left", "below", "a", "b", "bit", "half", "top"] ["self", "left", "below", "a", "b", "bit"] (defScope (inClass (top 61) 3)) := ⟨rfl, rfl, rfl, by decide +kernel, rfl, by decide +kernel, by decide +kernel⟩
  refine ok0 T.m_WideNode_feed sc (fun vs H Q E h => ?_) (fun cdv A outer s H vs Q E hr h => ?_)
  · obtain ⟨p, bl, low, m, x, y, c, rfl, _⟩ := h; rfl
  · obtain ⟨p, bl, low, m, x, y, c, rfl, ⟨dx, hp⟩, hb, ok, k⟩ := h
    refine ⟨_, (pss_cons (ps_set (i := 6) sc.nd rfl (by first | exact Or.inl rfl | exact Or.inr rfl) (pe_op op_shl pe_int (pe_op op_sub (pv 3) pe_int)))
      (pss_cons (ps_set (i := 7) sc.nd rfl (by first | exact Or.inl rfl | exact Or.inr rfl) (pe_ifExp (pt_cmpR op_eq (pv 5) pe_str (nomark _)) (pe_op op_sub (pv 4) (pv 6)) (pe_callB (call_min2 rfl) (by rfl) T.min (by decide +kernel) (pa_cons (pv 4) (pa_cons (pe_op op_sub (pv 6) pe_int) pa_nil)))))
      (pss_cons (ps_if (pt_cmpR op_lt (pv 7) pe_int (nomark _))
      (pss_one (ps_ret (pe_tup (pa_cons (pe_lst pa_nil) (pa_cons pe_non pa_nil)))))
      pss_nil)
      (pss_cons (ps_if (pt_cmpR op_eq (pv 3) pe_int (nomark _))
      (pss_one (ps_ret (pe_tup (pa_cons (pe_call G_ended (hr.mono (by first | decide | omega)) rfl T.ended.mg T.ended.kp T.ended.b .nil pass0 (pa_cons (pv 1) (pa_cons (pv 2) pa_nil))) (pa_cons (pe_tup (pa_cons pe_str (pa_cons (pe_fld (pv 0) rfl) pa_nil))) pa_nil)))))
      pss_nil)
      (pss_one (ps_ret (pe_tup (pa_cons (pe_lst (pa_cons (pe_tup (pa_cons (pv 1) (pa_cons (pe_op op_catA (pv 2) (pe_tup (pa_cons (pe_tup (pa_cons (pv 0) (pa_cons (pe_op op_sub (pv 3) pe_int) (pa_cons (pv 7) pa_nil)))) pa_nil))) pa_nil))) pa_nil)) (pa_cons pe_non pa_nil))))))))), ?_⟩
    have cl := T.cl_WideNode
    have no : ∀ f ∈ fields, NoAttr K a.c_WideNode f := T.no_WideNode
    obtain ⟨k1, k2, k3⟩ := ok
    have hx : 1 ≤ x := k3 (fun z => by cases z)
    walk_at "go"
    have hf : (1 : Int) * 2 ^ ((x : Int) - 1).toNat = ((2 ^ (x - 1) : Nat) : Int) := by
      rw [show (x : Int) - 1 = ((x - 1 : Nat) : Int) by omega]
      exact shl_one (x - 1)
    rw [hf]
    have hpos : 1 ≤ 2 ^ (x - 1) := Nat.one_le_two_pow
    generalize hh : 2 ^ (x - 1) = hN at hpos ⊢
    cases c with
    | true =>
      refine i_yes (by decide +kernel) ?_
      walk_at "go"
      have k : ∀ (t L : Addr) (told : V) (H' : Hp), Same H H' → H' t = some (.tup [.ref L, told]) → ThsAt H' L p (feedW x y true) → ToldAt H' told → Q (.ref t) H' := k
      refine i_itd (fun q0 => ?_) (fun q0 => ?_)
      · have fe : feedW x y true = none := by
          unfold feedW
          rw [if_pos ⟨rfl, by rw [hh]; omega⟩]
        rw [fe] at k
        walk_at "go"
        rename_i L nL t nt
        exact k t L .non _ ((same_refl.new nL).new nt) upd_same (same_upd nt _ _ upd_same) (.inl rfl)
      · have fe : feedW x y true = (if x = 1 then some .whole else some (.run (x - 1) (y - hN))) := by
          unfold feedW
          rw [if_neg (fun z => by have := z.2; rw [hh] at this; omega), hh]
          rfl
        have eN : (y : Int) - (hN : Int) = ((y - hN : Nat) : Int) := by omega
        rw [eN]
        generalize y - hN = sN at fe ⊢
        walk_at "go"
        refine i_itei (fun q1 => ?_) (fun q1 => ?_)
        · walk_at "go"
          refine ⟨bl, rfl, hb, fun L p' H1 s1 th => ?_⟩
          dsimp only
          walk_at "go"
          refine i_fld1 rfl (s1 _ _ hp) cl (no _ (by decide)) rfl ?_
          walk_at "go"
          rename_i r nr t nt
          have s2 := (same_refl.new (o := .tup [.str "number", .int low]) nr).new (o := .tup [.ref L, .ref r]) nt
          rw [fe, if_pos (by omega)] at k
          exact k t L (.ref r) _ (fun b o e => s2 b o (s1 b o e)) upd_same (ThsAt.same (o := some .whole) th s2) (.inr ⟨r, _, rfl, same_upd nt _ _ upd_same⟩)
        · rw [fe, if_neg (fun z => q1 (by omega))] at k
          walk_at "go"
          rename_i fr nfr st nst
          have s2 := (same_refl.new (o := .tup [.ref p, .int ((x : Int) - 1), .int (sN : Int)]) nfr).new (o := .tup [.ref fr]) nst
          refine ⟨bl, st, [], [.ref fr], rfl, rfl, SqT.of (s2 _ _ hb), SqT.of upd_same, (by show 1 ≤ sizeLine; decide), fun _ => ?_, fun z => absurd rfl z, fun z => absurd rfl z⟩
          walk_at "go"
          rename_i th nth L nL t nt
          have s3 := ((same_refl.new (o := .tup [.int (-1), .ref st]) nth).new (o := .lst [.ref th]) nL).new (o := .tup [.ref L, .non]) nt
          refine k t L .non _ (fun b o e => s3 b o (s2 b o e)) upd_same ⟨th, same_upd nt _ _ upd_same, st, same_upd nt _ _ (same_upd nL _ _ upd_same), fr, s3 _ _ upd_same, ?_⟩ (.inl rfl)
          rw [show ((x - 1 : Nat) : Int) = (x : Int) - 1 by omega]
          exact s3 _ _ (same_upd nst _ _ upd_same)
    | false =>
      refine i_no (by decide +kernel) ?_
      have fe : feedW x y false = (if x = 1 then some .whole else some (.run (x - 1) (min y (hN - 1)))) := by
        unfold feedW
        rw [if_neg (fun z => Bool.false_ne_true z.1), hh]
        rfl
      have eN : (if (hN : Int) - 1 < (y : Int) then (hN : Int) - 1 else (y : Int)) = ((min y (hN - 1) : Nat) : Int) := by split <;> omega
      walk_at "go"
      refine ⟨_, _, rfl, ?_⟩
      rw [eN]
      have k : ∀ (t L : Addr) (told : V) (H' : Hp), Same H H' → H' t = some (.tup [.ref L, told]) → ThsAt H' L p (feedW x y false) → ToldAt H' told → Q (.ref t) H' := k
      generalize min y (hN - 1) = sN at fe ⊢
      walk_at "go"
      refine i_itd (fun q0 => absurd q0 (by omega)) (fun q0 => ?_)
      walk_at "go"
      refine i_itei (fun q1 => ?_) (fun q1 => ?_)
      · walk_at "go"
        refine ⟨bl, rfl, hb, fun L p' H1 s1 th => ?_⟩
        dsimp only
        walk_at "go"
        refine i_fld1 rfl (s1 _ _ hp) cl (no _ (by decide)) rfl ?_
        walk_at "go"
        rename_i r nr t nt
        have s2 := (same_refl.new (o := .tup [.str "number", .int low]) nr).new (o := .tup [.ref L, .ref r]) nt
        rw [fe, if_pos (by omega)] at k
        exact k t L (.ref r) _ (fun b o e => s2 b o (s1 b o e)) upd_same (ThsAt.same (o := some .whole) th s2) (.inr ⟨r, _, rfl, same_upd nt _ _ upd_same⟩)
      · rw [fe, if_neg (fun z => q1 (by omega))] at k
        walk_at "go"
        rename_i fr nfr st nst
        have s2 := (same_refl.new (o := .tup [.ref p, .int ((x : Int) - 1), .int (sN : Int)]) nfr).new (o := .tup [.ref fr]) nst
        refine ⟨bl, st, [], [.ref fr], rfl, rfl, SqT.of (s2 _ _ hb), SqT.of upd_same, (by show 1 ≤ sizeLine; decide), fun _ => ?_, fun z => absurd rfl z, fun z => absurd rfl z⟩
        walk_at "go"
        rename_i th nth L nL t nt
        have s3 := ((same_refl.new (o := .tup [.int (-1), .ref st]) nth).new (o := .lst [.ref th]) nL).new (o := .tup [.ref L, .non]) nt
        refine k t L .non _ (fun b o e => s3 b o (s2 b o e)) upd_same ⟨th, same_upd nt _ _ upd_same, st, same_upd nt _ _ (same_upd nL _ _ upd_same), fr, s3 _ _ upd_same, ?_⟩ (.inl rfl)
        rw [show ((x - 1 : Nat) : Int) = (x : Int) - 1 by omega]
        exact s3 _ _ (same_upd nst _ _ upd_same)
end
end Me
set_option maxHeartbeats 8000000
namespace Me
open PySem L2


/-- a node, tight or wide -/
def ndC (a : Ad) : Option Nat → Addr
  | none => a.c_TightNode
  | some _ => a.c_WideNode
def ndBegin (a : Ad) : Option Nat → DA
  | none => a.m_TightNode_begin
  | some _ => a.m_WideNode_begin
def ndOwed (a : Ad) : Option Nat → DA
  | none => a.m_TightNode_owed
  | some _ => a.m_WideNode_owed
def ndFeed (a : Ad) : Option Nat → DA
  | none => a.m_TightNode_feed
  | some _ => a.m_WideNode_feed
theorem NdAt.ins {a : Ad} {H : Hp} {p : Addr} {low : Int} {m : Nat} {wd : Option Nat} (h : NdAt a H p low m wd) : ∃ dx fs, H p = some (.ins (ndC a wd) dx fs) ∧ fs.lookup ("begin" : Str) = none ∧ fs.lookup ("owed" : Str) = none ∧ fs.lookup ("feed" : Str) = none := by
  cases wd with
  | none => obtain ⟨dx, e⟩ := h; exact ⟨dx, _, e, rfl, rfl, rfl⟩
  | some W => obtain ⟨dx, e⟩ := h; exact ⟨dx, _, e, rfl, rfl, rfl⟩
theorem i_make {C : Addr} {sp : Sp} {dvs : List V} {E : XK} {t : TA} {σ : L2.St} {H : Hp} {Q : VK} (q : t σ H fun vs H1 => ∀ x dx, H1 x = none → H1 dx = none → dx ≠ x → sp (.ref x :: (vs ++ dvs)) (upd (upd H1 dx (.own x)) x (.ins C dx [])) (fun v H2 => v = .non ∧ Q (.ref x) H2) E) : tMake C sp dvs E t σ H Q := q
theorem i_meth {C : Addr} {m : Str} {sp : Sp} {dvs : List V} {E : XK} {ta : TE} {t : TA} {σ : L2.St} {H : Hp} {Q : VK} (q : ta σ H fun x H1 => ∃ a dx fs, x = .ref a ∧ H1 a = some (.ins C dx fs) ∧ fs.lookup m = none ∧ t σ H1 fun vs H2 => sp (x :: (vs ++ dvs)) H2 Q E) : tMeth C m sp dvs E ta t σ H Q := q
section
variable {P : Program} {w : World} {K : PySem.W.Frag} {mg : Str → Option Value} {base : Heap} {a : Ad}
theorem nd_cl (T : Txt P K mg a) (wd : Option Nat) : Cls K (ndC a wd) := by
  cases wd with
  | none => exact T.cl_TightNode
  | some W => exact T.cl_WideNode
theorem nd_ty (T : Txt P K mg a) {wd : Option Nat} {H : Hp} {p dx : Addr} {fs : List (Str × V)} (h : H p = some (.ins (ndC a wd) dx fs)) : TyX K H (.ref p) (.ref (ndC a wd)) := by
  cases wd with
  | none => exact T.ty_TightNode _ _ _ _ h
  | some W => exact T.ty_WideNode _ _ _ _ h
theorem nd_kt (T : Txt P K mg a) (wd : Option Nat) : PySem.W.kitOne K (.ref (ndC a wd)) (.ref a.c_BodyNode) = some false := by
  cases wd with
  | none => exact T.kt_TightNode_BodyNode
  | some W => exact T.kt_WideNode_BodyNode
theorem nd_me_begin (T : Txt P K mg a) (wd : Option Nat) : Meth K (ndC a wd) "begin" (ndBegin a wd).f := by
  cases wd with
  | none => exact T.me_m_TightNode_begin
  | some W => exact T.me_m_WideNode_begin
theorem nd_me_owed (T : Txt P K mg a) (wd : Option Nat) : Meth K (ndC a wd) "owed" (ndOwed a wd).f := by
  cases wd with
  | none => exact T.me_m_TightNode_owed
  | some W => exact T.me_m_WideNode_owed
theorem nd_me_feed (T : Txt P K mg a) (wd : Option Nat) : Meth K (ndC a wd) "feed" (ndFeed a wd).f := by
  cases wd with
  | none => exact T.me_m_TightNode_feed
  | some W => exact T.me_m_WideNode_feed
theorem nd_b_begin (T : Txt P K mg a) (wd : Option Nat) : Binds K (ndBegin a wd).fd ["self", "left", "below"] [] := by
  cases wd with
  | none => exact T.b_m_TightNode_begin
  | some W => exact T.b_m_WideNode_begin
theorem nd_b_owed (T : Txt P K mg a) (wd : Option Nat) : Binds K (ndOwed a wd).fd ["self", "a", "b"] [] := by
  cases wd with
  | none => exact T.b_m_TightNode_owed
  | some W => exact T.b_m_WideNode_owed
theorem nd_b_feed (T : Txt P K mg a) (wd : Option Nat) : Binds K (ndFeed a wd).fd ["self", "left", "below", "a", "b", "bit"] [] := by
  cases wd with
  | none => exact T.b_m_TightNode_feed
  | some W => exact T.b_m_WideNode_feed
theorem ok_nd_begin (T : Txt P K mg a) (wd : Option Nat) : FnOk P w K mg base CX0 1 (ndBegin a wd).f (ndBegin a wd).fd ["self", "left", "below"] (spBegin a wd) := by
  cases wd with
  | none => exact ok_tight_begin T
  | some W => exact ok_wide_begin W T
theorem ok_nd_owed (T : Txt P K mg a) (wd : Option Nat) : FnOk P w K mg base CX0 1 (ndOwed a wd).f (ndOwed a wd).fd ["self", "a", "b"] (spOwed a wd) := by
  cases wd with
  | none => exact ok_tight_owed T
  | some W => exact ok_wide_owed W T
theorem ok_nd_feed (T : Txt P K mg a) (wd : Option Nat) : FnOk P w K mg base CX0 2 (ndFeed a wd).f (ndFeed a wd).fd ["self", "left", "below", "a", "b", "bit"] (spFeed a wd) := by
  cases wd with
  | none => exact ok_tight_feed T
  | some W => exact ok_wide_feed W T
theorem Kept.same {H H' : Hp} {x : Addr} (k : Kept H x H') (n : H x = none) : Same H H' := fun b o e => k b o (ne_of_none e n) e
def spNode (a : Ad) : Sp := fun vs H Q _ => ∃ (p : Addr) (low : Int) (m : Nat) (wd : Option Nat), vs = [.ref p] ∧ NumOk a.c_Number H p low m wd ∧ ∀ x H', Same H H' → H x = none → NdAt a H' x low m wd → Q (.ref x) H'
theorem ok_number_node (T : Txt P K mg a) : FnOk P w K mg base CX0 4 a.number_node.f a.number_node.fd ["kind"] (spNode a) := by
  have G_how_many_integers : FnOk P w K mg base CX0 1 a.how_many_integers.f a.how_many_integers.fd ["number"] (spMany a) := ok_many T
  have G_tight := ok_tight_init (P := P) (w := w) (base := base) T
  have G_wide := ok_wide_init (P := P) (w := w) (base := base) T
  have sc : FnScope ["kind", "many"] ["kind"] (defScope (top 70)) := ⟨rfl, rfl, rfl, by decide +kernel, rfl, by decide +kernel, by decide +kernel⟩
  refine T.number_node.ok sc (fun vs H Q E h => ?_) (fun cdv A outer s H vs Q E hr h => ?_)
  · obtain ⟨p, low, m, wd, rfl, _⟩ := h; rfl
  · obtain ⟨p, low, m, wd, rfl, N, k⟩ := h
    refine ⟨_, (pss_cons (ps_set (i := 1) sc.nd rfl (by first | exact Or.inl rfl | exact Or.inr rfl) (pe_call G_how_many_integers (hr.mono (by first | decide | omega)) rfl T.how_many_integers.mg T.how_many_integers.kp T.how_many_integers.b .nil pass0 (pa_cons (pv 0) pa_nil)))
      (pss_cons (ps_if (pt_cmpR op_isN (pe_fld (pv 0) rfl) pe_non (nomark _))
      (pss_one (ps_ret (pe_make T.mk_TightNode G_tight (hr.mono (by decide)) rfl T.TightNode T.b_m_TightNode_init .nil pass0 (pa_cons (pe_fld (pv 0) rfl) (pa_cons (pv 1) pa_nil)))))
      pss_nil)
      (pss_one (ps_ret (pe_make T.mk_WideNode G_wide (hr.mono (by decide)) rfl T.WideNode T.b_m_WideNode_init .nil pass0 (pa_cons (pe_fld (pv 0) rfl) (pa_cons (pv 1) (pa_cons (pe_fld (pv 0) rfl) pa_nil)))))))), ?_⟩
    have cl := T.cl_Number
    have no : ∀ f ∈ fields, NoAttr K a.c_Number f := T.no_Number
    obtain ⟨dx, e⟩ := N.at_
    have n1 := N.lo
    have n2 := N.hi
    walk_at "go"
    refine ⟨p, low, low + m - 1, wd, rfl, N.at_, ?_⟩
    rw [show low + (m : Int) - 1 - low + 1 = (m : Int) by omega]
    dsimp only
    walk_at "go"
    cases wd with
    | none =>
      refine i_fld1 rfl e cl (no _ (by decide)) rfl ?_
      walk_at "go"
      refine ⟨rfl, _, rfl, i_yes rfl ?_⟩
      walk_at "go"
      refine i_make ?_
      walk_at "go"
      refine i_fld1 rfl e cl (no _ (by decide)) rfl ?_
      walk_at "go"
      intro x dx2 nx ndx ne
      refine ⟨x, dx2, low, m, rfl, n1, n2, upd_same, fun H' kk hn => ?_⟩
      refine ⟨rfl, k x H' ?_ nx hn⟩
      exact fun b o eb => kk b o (ne_of_none eb nx) (by rw [upd_ne (ne_of_none eb nx), upd_ne (ne_of_none eb ndx)]; exact eb)
    | some W =>
      refine i_fld1 rfl e cl (no _ (by decide)) rfl ?_
      walk_at "go"
      refine ⟨rfl, _, rfl, i_no rfl ?_⟩
      walk_at "go"
      refine i_make ?_
      walk_at "go"
      refine i_fld1 rfl e cl (no _ (by decide)) rfl ?_
      walk_at "go"
      refine i_fld1 rfl e cl (no _ (by decide)) rfl ?_
      walk_at "go"
      intro x dx2 nx ndx ne
      refine ⟨x, dx2, low, m, W, rfl, n1, upd_same, fun H' kk hn => ?_⟩
      refine ⟨rfl, k x H' ?_ nx hn⟩
      exact fun b o eb => kk b o (ne_of_none eb nx) (by rw [upd_ne (ne_of_none eb nx), upd_ne (ne_of_none eb ndx)]; exact eb)
end
end Me
set_option maxHeartbeats 8000000
namespace Me
open PySem L2


/-- a plan's fields -/
def plF (d : Addr) (c : Int) (st ct nd sh : Addr) : List (Str × V) := [("named", .ref d), ("count", .int c), ("states", .ref st), ("counts", .ref ct), ("nodes", .ref nd), ("shared", .ref sh)]
section
variable {P : Program} {w : World} {K : PySem.W.Frag} {mg : Str → Option Value} {base : Heap} {a : Ad}
theorem Kept.trans {H H1 H2 : Hp} {x : Addr} (k : Kept H x H1) (s : Same H1 H2) : Kept H x H2 := fun b o n e => s b o (k b o n e)
theorem Same.kept {H H1 : Hp} {x : Addr} (s : Same H H1) : Kept H x H1 := fun b o _ e => s b o e
def spSame (a : Ad) : Sp := fun vs H Q _ => ∃ (p q x dx d st ct nd sh : Addr) (c : Int) (xs : List V), vs = [.ref p, .ref q, .ref x] ∧ H p = some (.ins a.c_Plan dx (plF d c st ct nd sh)) ∧ H sh = some (.dK []) ∧ H q = some (.tup xs) ∧ (∀ v ∈ xs, flatK v) ∧ Q (.ref x) (upd H sh anyO)
theorem ok_same (T : Txt P K mg a) : FnOk P w K mg base CX0 1 a.m_Plan_same.f a.m_Plan_same.fd ["self", "shape", "node"] (spSame a) := by
  have sc : FnScope ["self", "shape", "node"] ["self", "shape", "node"] (defScope (inClass (top 69) 3)) := ⟨rfl, rfl, rfl, by decide +kernel, rfl, by decide +kernel, by decide +kernel⟩
  refine ok0 T.m_Plan_same sc (fun vs H Q E h => ?_) (fun cdv A outer s H vs Q E hr h => ?_)
  · obtain ⟨p, q, x, dx, d, st, ct, nd, sh, c, xs, rfl, _⟩ := h; rfl
  · obtain ⟨p, q, x, dx, d, st, ct, nd, sh, c, xs, rfl, hp, hs, hq, fl, k⟩ := h
    refine ⟨_, (pss_one (ps_ret (pe_dsetT (Nat.lt_of_le_of_lt (Nat.add_le_add_left (by decide) _) hr.units) (pe_fld (pv 0) rfl) (pv 1) (pv 2) ⟨rfl, rfl, rfl, rfl⟩))), ?_⟩
    have cl := T.cl_Plan
    have no : ∀ f ∈ fields, NoAttr K a.c_Plan f := T.no_Plan
    walk_at "go"
    refine i_fld1 rfl hp cl (no _ (by decide)) rfl ?_
    refine ⟨sh, rfl, hs, _, rfl, _, rfl, q, xs, rfl, hs, hq, fl, ?_⟩
    exact k
def spMade (a : Ad) : Sp := fun vs H Q _ => ∃ (p n dx d st ct nd sh : Addr) (c low : Int) (m : Nat) (wd : Option Nat), vs = [.ref p, .ref n] ∧ H p = some (.ins a.c_Plan dx (plF d c st ct nd sh)) ∧ H sh = some (.dK []) ∧ NumOk a.c_Number H n low m wd ∧
  ∀ x H', Kept H sh H' → H x = none → NdAt a H' x low m wd → Q (.ref x) H'
theorem ok_made (T : Txt P K mg a) : FnOk P w K mg base CX0 5 a.m_Plan_made.f a.m_Plan_made.fd ["self", "kind"] (spMade a) := by
  have G_same := ok_same (P := P) (w := w) (base := base) T
  have G_number_node := ok_number_node (P := P) (w := w) (base := base) T
  have sc : FnScope ["self", "kind", "item", "ways", "way", "parts", "part"] ["self", "kind"] (defScope (inClass (top 69) 2)) := ⟨rfl, rfl, rfl, by decide +kernel, rfl, by decide +kernel, by decide +kernel⟩
  refine ok0 T.m_Plan_made sc (fun vs H Q E h => ?_) (fun cdv A outer s H vs Q E hr h => ?_)
  · obtain ⟨p, n, dx, d, st, ct, nd, sh, c, low, m, wd, rfl, _⟩ := h; rfl
  · obtain ⟨p, n, dx, d, st, ct, nd, sh, c, low, m, wd, rfl, hp, hs, N, k⟩ := h
    refine ⟨_, (pss_cons (ps_if (pt_val (pe_callB call_isi (by rfl) T.isinstance (by decide +kernel) (pa_cons (pv 1) (pa_cons (pe_glob (v := .ref a.c_Nothing) rfl T.Nothing rfl) pa_nil))))
      (pss_one ps_never)
      pss_nil)
      (pss_cons (ps_if (pt_val (pe_callB call_isi (by rfl) T.isinstance (by decide +kernel) (pa_cons (pv 1) (pa_cons (pe_glob (v := .ref a.c_Number) rfl T.Number rfl) pa_nil))))
      (pss_one (ps_ret (pe_meth (pv 0) T.cl_Plan T.me_m_Plan_same G_same (hr.mono (by first | decide | omega)) T.b_m_Plan_same .nil pass0 (pa_cons (pe_tup (pa_cons pe_str (pa_cons (pe_fld (pv 1) rfl) (pa_cons (pe_fld (pv 1) rfl) (pa_cons (pe_fld (pv 1) rfl) pa_nil))))) (pa_cons (pe_call G_number_node (hr.mono (by first | decide | omega)) rfl T.number_node.mg T.number_node.kp T.number_node.b .nil pass0 (pa_cons (pv 1) pa_nil)) pa_nil)))))
      pss_nil)
      pss_never)), ?_⟩
    have cl := T.cl_Number
    have no : ∀ f ∈ fields, NoAttr K a.c_Number f := T.no_Number
    obtain ⟨ndx, e⟩ := N.at_
    walk_at "go"
    refine i_isiN (T.ty_Number _ _ _ _ e) T.kt_Number_Nothing ?_
    walk_at "go"
    refine i_isiN (T.ty_Number _ _ _ _ e) T.kt_Number_Number ?_
    walk_at "go"
    refine i_meth ?_
    walk_at "go"
    refine ⟨p, dx, _, rfl, hp, rfl, ?_⟩
    walk_at "go"
    refine i_fld1 rfl e cl (no _ (by decide)) rfl ?_
    walk_at "go"
    refine i_fld1 rfl e cl (no _ (by decide)) rfl ?_
    walk_at "go"
    refine i_fld1 rfl e cl (no _ (by decide)) rfl ?_
    walk_at "go"
    rename_i q nq
    refine ⟨n, low, m, wd, rfl, N.same (same_upd nq), fun x H' s1 nx hn => ?_⟩
    refine ⟨p, q, x, dx, d, st, ct, nd, sh, c, _, rfl, s1 _ _ (same_upd nq _ _ hp), s1 _ _ (same_upd nq _ _ hs), s1 _ _ upd_same, ?_, ?_⟩
    · intro v hv
      simp only [List.mem_cons, List.mem_nil_iff, or_false] at hv
      rcases hv with rfl | rfl | rfl | rfl
      · trivial
      · trivial
      · trivial
      · cases wd <;> trivial
    · have s2 : Same H H' := fun b o e => s1 b o (same_upd nq b o e)
      have nx' : H x = none := (upd_none nx).2
      have xs : x ≠ sh := fun z => by rw [z, hs] at nx'; cases nx'
      refine k x _ s2.kept.upd nx' ?_
      cases wd with
      | none => obtain ⟨dx, e⟩ := hn; exact ⟨dx, by rw [upd_ne xs]; exact e⟩
      | some W => obtain ⟨dx, e⟩ := hn; exact ⟨dx, by rw [upd_ne xs]; exact e⟩
end
end Me
set_option maxHeartbeats 8000000
namespace Me
open PySem L2


theorem Kept.none {H H' : Hp} {x y : Addr} (k : Kept H x H') (n : y ≠ x) (e : H' y = none) : H y = none := by
  cases h : H y with
  | none => rfl
  | some o => rw [k y o n h] at e; cases e
theorem tgen {t : TS} {D : Ends} {σ : L2.St} {G : Hp} (F : Hp → Prop) (f : F G) (q : ∀ G', F G' → t D σ G') : t D σ G := q G f
section
variable {P : Program} {w : World} {K : PySem.W.Frag} {mg : Str → Option Value} {base : Heap} {a : Ad}
theorem NdAt.kept {H H' : Hp} {p y : Addr} {low : Int} {m : Nat} {wd : Option Nat} (h : NdAt a H p low m wd) (k : Kept H y H') (n : p ≠ y) : NdAt a H' p low m wd := by
  cases wd with
  | none => obtain ⟨dx, e⟩ := h; exact ⟨dx, k _ _ n e⟩
  | some W => obtain ⟨dx, e⟩ := h; exact ⟨dx, k _ _ n e⟩
theorem NdAt.some {H : Hp} {p : Addr} {low : Int} {m : Nat} {wd : Option Nat} (h : NdAt a H p low m wd) : H p ≠ none := by
  obtain ⟨dx, fs, e, _⟩ := h.ins
  rw [e]; exact fun z => by cases z
def spNodeOf (a : Ad) : Sp := fun vs H Q _ => ∃ (p n dx d st ct nd sh : Addr) (od : Obj) (z : Str) (c low : Int) (m : Nat) (wd : Option Nat), vs = [.ref p, .str z] ∧ H p = some (.ins a.c_Plan dx (plF d c st ct nd sh)) ∧ H sh = some (.dK []) ∧ H nd = some (.dK []) ∧ nd ≠ sh ∧ H d = some (.frz od (.dK [(.inr z, .ref n)])) ∧ NumOk a.c_Number H n low m wd ∧
  ∀ x H', (∀ b o, b ≠ sh → b ≠ nd → H b = some o → H' b = some o) → H' nd = some (.dK [(.inr z, .ref x)]) → NdAt a H' x low m wd → Q (.ref x) H'
theorem ok_node_of (T : Txt P K mg a) : FnOk P w K mg base CX0 6 a.m_Plan_node_of.f a.m_Plan_node_of.fd ["self", "name"] (spNodeOf a) := by
  have G_made := ok_made (P := P) (w := w) (base := base) T
  have sc : FnScope ["self", "name"] ["self", "name"] (defScope (inClass (top 69) 1)) := ⟨rfl, rfl, rfl, by decide +kernel, rfl, by decide +kernel, by decide +kernel⟩
  refine ok0 T.m_Plan_node_of sc (fun vs H Q E h => ?_) (fun cdv A outer s H vs Q E hr h => ?_)
  · obtain ⟨p, n, dx, d, st, ct, nd, sh, od, z, c, low, m, wd, rfl, _⟩ := h; rfl
  · obtain ⟨p, n, dx, d, st, ct, nd, sh, od, z, c, low, m, wd, rfl, hp, hs, hn, nns, hd, N, k⟩ := h
    refine ⟨_, (pss_cons (ps_if (pt_cmp (pc_dnotin (hu_of hr) (pv 1) (pe_fld (pv 0) rfl)))
      (pss_one (ps_asg (pe_meth (pv 0) T.cl_Plan T.me_m_Plan_made G_made (hr.mono (by first | decide | omega)) T.b_m_Plan_made .nil pass0 (pa_cons (pe_dget (hu_of hr) (pe_fld (pv 0) rfl) (pv 1) (fun _ _ => rfl)) pa_nil)) (pg_sub (pe_fld (pv 0) rfl) (pv 1) (set_dict (hu_of hr)))))
      pss_nil)
      (pss_one (ps_ret (pe_dget (hu_of hr) (pe_fld (pv 0) rfl) (pv 1) (fun _ _ => rfl))))), ?_⟩
    have cl := T.cl_Plan
    have no : ∀ f ∈ fields, NoAttr K a.c_Plan f := T.no_Plan
    walk_at "go"
    refine ⟨_, rfl, ?_⟩
    refine i_fld1 rfl hp cl (no _ (by decide)) rfl ?_
    refine ⟨nd, _, rfl, .inl ⟨_, .inr z, .inl hn, rfl, rfl⟩, ?_⟩
    refine ⟨_, rfl, i_yes rfl ?_⟩
    walk_at "go"
    refine i_meth ?_
    walk_at "go"
    refine ⟨p, dx, _, rfl, hp, rfl, ?_⟩
    walk_at "go"
    refine i_fld1 rfl hp cl (no _ (by decide)) rfl ?_
    walk_at "go"
    refine ⟨d, .ref n, rfl, .inl ⟨_, .inr z, .inr ⟨_, hd⟩, rfl, val_one.symm⟩, ?_⟩
    walk_at "go"
    refine ⟨p, n, dx, d, st, ct, nd, sh, c, low, m, wd, rfl, hp, hs, N, fun x H' kk nx hN => ?_⟩
    have ps : p ≠ sh := ne_of hp hs (by intro z; cases z)
    have np : nd ≠ p := ne_of hn hp (by intro z; cases z)
    have hp' := kk _ _ ps hp
    have hn' := kk _ _ nns hn
    walk_at "go"
    refine i_fld1 rfl hp' cl (no _ (by decide)) rfl ?_
    walk_at "go"
    refine ⟨nd, _, rfl, DPut.k (k := .inr z) hn' (by decide), ?_⟩
    walk_at "go"
    refine i_fld1 rfl (by rw [upd_ne np.symm]; exact hp') cl (no _ (by decide)) rfl ?_
    walk_at "go"
    refine ⟨nd, .ref x, rfl, .inl ⟨_, .inr z, .inl upd_same, rfl, val_one.symm⟩, ?_⟩
    refine k x _ (fun b o n1 n2 e => by rw [upd_ne n2]; exact kk b o n1 e) upd_same ?_
    have xn : x ≠ nd := fun e => by rw [e, hn] at nx; cases nx
    cases wd with
    | none => obtain ⟨dx, e⟩ := hN; exact ⟨dx, by rw [upd_ne xn]; exact e⟩
    | some W => obtain ⟨dx, e⟩ := hN; exact ⟨dx, by rw [upd_ne xn]; exact e⟩
/-- a plan whose one kind is a Number -/
structure PlanAt (a : Ad) (H : Hp) (p d n x : Addr) (z : Str) (low : Int) (m : Nat) (wd : Option Nat) : Prop where
  pl : ∃ dx c st ct nd sh, H p = some (.ins a.c_Plan dx (plF d c st ct nd sh)) ∧ H nd = some (.dK [(.inr z, .ref x)])
  dd : H d = some (.dK [(.inr z, .ref n)])
  num : NumOk a.c_Number H n low m wd
  nd : NdAt a H x low m wd
theorem PlanAt.same {H H' : Hp} {p d n x : Addr} {z : Str} {low : Int} {m : Nat} {wd : Option Nat} (h : PlanAt a H p d n x z low m wd) (s : Same H H') : PlanAt a H' p d n x z low m wd := by
  obtain ⟨dx, c, st, ct, nd, sh, e1, e2⟩ := h.pl
  exact ⟨⟨dx, c, st, ct, nd, sh, s _ _ e1, s _ _ e2⟩, s _ _ h.dd, h.num.same s, h.nd.same s⟩
def spPlanI (a : Ad) : Sp := fun vs H Q _ => ∃ (p n dx d : Addr) (z : Str) (c low : Int) (m : Nat) (wd : Option Nat), vs = [.ref p, .ref d, .int c] ∧ H p = some (.ins a.c_Plan dx []) ∧ H d = some (.dK [(.inr z, .ref n)]) ∧ NumOk a.c_Number H n low m wd ∧
  ∀ x H', Kept H p H' → PlanAt a H' p d n x z low m wd → Q .non H'
theorem ok_plan_init (T : Txt P K mg a) : FnOk P w K mg base CX0 7 a.m_Plan_init.f a.m_Plan_init.fd ["self", "named", "count"] (spPlanI a) := by
  have G_node_of := ok_node_of (P := P) (w := w) (base := base) T
  have sc : FnScope ["self", "named", "count", "name"] ["self", "named", "count"] (defScope (inClass (top 69) 0)) := ⟨rfl, rfl, rfl, by decide +kernel, rfl, by decide +kernel, by decide +kernel⟩
  refine ok0 T.m_Plan_init sc (fun vs H Q E h => ?_) (fun cdv A outer s H vs Q E hr h => ?_)
  · obtain ⟨p, n, dx, d, z, c, low, m, wd, rfl, _⟩ := h; rfl
  · obtain ⟨p, n, dx, d, z, c, low, m, wd, rfl, hp, hd, N, k⟩ := h
    refine ⟨_, (pss_cons (ps_fld (pv 0) (pv 1) rfl)
      (pss_cons (ps_fld (pv 0) (pv 2) rfl)
      (pss_cons (ps_fld (pv 0) pe_dnewK rfl)
      (pss_cons (ps_fld (pv 0) pe_dnewK rfl)
      (pss_cons (ps_fld (pv 0) pe_dnewK rfl)
      (pss_cons (ps_fld (pv 0) pe_dnewK rfl)
      (pss_one (ps_lock (ps_for PassesOwn.never rfl (pi_keys (pv 1)) (pg_name (i := 3) sc.nd rfl (by first | exact Or.inl rfl | exact Or.inr rfl))
      (pss_one (ps_expr (pe_meth (pv 0) T.cl_Plan T.me_m_Plan_node_of G_node_of (hr.mono (by first | decide | omega)) T.b_m_Plan_node_of .nil pass0 (pa_cons (pv 3) pa_nil))))))))))))), ?_⟩
    have cl := T.cl_Plan
    have no : ∀ f ∈ fields, NoAttr K a.c_Plan f := T.no_Plan
    have pd : p ≠ d := ne_of hp hd (by intro z; cases z)
    walk_at "go"
    refine i_sfld ?_
    walk_at "go"
    refine ⟨p, _, dx, [], rfl, hp, cl, no _ (by decide), by decide, ?_⟩
    walk_at "go"
    refine i_sfld ?_
    walk_at "go"
    refine ⟨p, _, dx, _, rfl, upd_same, cl, no _ (by decide), (by show 1 < 1000; decide), ?_⟩
    walk_at "go"
    refine i_sfld ?_
    refine i_dnew (fun st nst => ?_)
    walk_at "go"
    have pst : p ≠ st := ne_of_none upd_same nst
    refine ⟨p, _, dx, _, rfl, upd_get pst upd_same, cl, no _ (by decide), (by show 2 < 1000; decide), ?_⟩
    walk_at "go"
    refine i_sfld ?_
    refine i_dnew (fun ct nct => ?_)
    walk_at "go"
    have pct : p ≠ ct := ne_of_none upd_same nct
    refine ⟨p, _, dx, _, rfl, upd_get pct upd_same, cl, no _ (by decide), (by show 3 < 1000; decide), ?_⟩
    walk_at "go"
    refine i_sfld ?_
    refine i_dnew (fun nd nnd => ?_)
    walk_at "go"
    have pnd : p ≠ nd := ne_of_none upd_same nnd
    refine ⟨p, _, dx, _, rfl, upd_get pnd upd_same, cl, no _ (by decide), (by show 4 < 1000; decide), ?_⟩
    walk_at "go"
    refine i_sfld ?_
    refine i_dnew (fun sh nsh => ?_)
    walk_at "go"
    have psh : p ≠ sh := ne_of_none upd_same nsh
    refine ⟨p, _, dx, _, rfl, upd_get psh upd_same, cl, no _ (by decide), (by show 5 < 1000; decide), ?_⟩
    dsimp only
    refine tgen (fun G => Kept H p G ∧ G p = some (.ins a.c_Plan dx (plF d c st ct nd sh)) ∧ G nd = some (.dK []) ∧ G sh = some (.dK []) ∧ nd ≠ sh ∧ H nd = none ∧ H sh = none) ⟨?_, ?_, ?_, ?_, ?_, ?_, ?_⟩ (fun G h => ?_)
    · exact ((((((((((Kept.rfl'.upd).upd).new nst).upd).new nct).upd).new nnd).upd).new nsh).upd)
    · exact upd_same
    · exact upd_get pnd.symm (upd_get (ne_of_none (upd_get pnd.symm upd_same) nsh) (upd_get pnd.symm upd_same))
    · exact upd_get psh.symm upd_same
    · exact ne_of_none (upd_get pnd.symm upd_same) nsh
    · exact (((((Kept.rfl'.upd).upd).new nst).upd).new nct).upd.none pnd.symm nnd
    · exact (((((((Kept.rfl'.upd).upd).new nst).upd).new nct).upd).new nnd).upd.none psh.symm nsh
    obtain ⟨kG, gp, gn, gs, nns, hn0, hs0⟩ := h
    have gd := kG _ _ pd.symm hd
    refine ⟨d, _, gd, mut_dK, fun od => ?_⟩
    have NG : NumOk a.c_Number G n low m wd := by
      obtain ⟨ndx, e⟩ := N.at_
      exact ⟨⟨ndx, kG _ _ (ne_of e hp (fun z => by injection z with _ _ z; cases z)) e⟩, N.lo, N.hi, N.wd⟩
    refine ⟨_, rfl, d, od, rfl, .inl ⟨_, upd_same, ?_⟩⟩
    refine for_it walk_keys (fun i σ' H' => (∃ v3, σ' = [some (.ref p), some (.ref d), some (.int c), v3]) ∧ H' d = some (.frz od (.dK [(.inr z, .ref n)])) ∧ (i = 0 → H' = upd G d (.frz od (.dK [(.inr z, .ref n)]))) ∧ (i = 1 → (∀ b o, b ≠ sh → b ≠ nd → upd G d (.frz od (.dK [(.inr z, .ref n)])) b = some o → H' b = some o) ∧ ∃ x, H' nd = some (.dK [(.inr z, .ref x)]) ∧ NdAt a H' x low m wd)) ⟨⟨none, rfl⟩, upd_same, fun _ => rfl, fun e => absurd e (by decide)⟩ (fun i σ' H' _ h => h.2.1) (fun i x σ' H1 H2 hi h y => ?_) (fun σ' H2 h => ?_)
    · obtain ⟨rfl, k', v', ek, rfl⟩ := y
      have i0 : i = 0 := by simp at hi; omega
      subst i0
      cases ek
      obtain ⟨⟨v3, rfl⟩, hd1, e0, _⟩ := h
      have e0 := e0 rfl
      subst e0
      refine i_gname ?_
      refine i_drop ?_
      refine i_meth ?_
      walk_at "go"
      have dn : nd ≠ d := fun e => by rw [e, hd] at hn0; cases hn0
      have ds : sh ≠ d := fun e => by rw [e, hd] at hs0; cases hs0
      have hp1 := upd_get (o := .frz od (.dK [(.inr z, .ref n)])) pd gp
      have hn1 := upd_get (o := .frz od (.dK [(.inr z, .ref n)])) dn gn
      have hs1 := upd_get (o := .frz od (.dK [(.inr z, .ref n)])) ds gs
      refine ⟨p, dx, _, rfl, hp1, rfl, ?_⟩
      walk_at "go"
      refine ⟨p, n, dx, d, st, ct, nd, sh, od, z, c, low, m, wd, rfl, hp1, hs1, hn1, nns, hd1, ?_, fun x H' kk hN hX => ?_⟩
      · obtain ⟨ndx, e⟩ := NG.at_
        exact ⟨⟨ndx, upd_get (ne_of e gd (by intro z; cases z)) e⟩, NG.lo, NG.hi, NG.wd⟩
      · refine ⟨⟨_, rfl⟩, kk _ _ ds.symm dn.symm hd1, fun e => absurd e (by decide), fun _ => ⟨kk, x, hN, hX⟩⟩
    · obtain ⟨⟨v3, rfl⟩, hd1, _, h1⟩ := h
      obtain ⟨kk, x, hN, hX⟩ := h1 rfl
      refine ⟨hd1, ?_⟩
      have dn : nd ≠ d := fun e => by rw [e, hd] at hn0; cases hn0
      have ds : sh ≠ d := fun e => by rw [e, hd] at hs0; cases hs0
      have pn : p ≠ nd := ne_of gp gn (by intro z; cases z)
      have ps : p ≠ sh := ne_of gp gs (by intro z; cases z)
      have k2 : ∀ b o, b ≠ sh → b ≠ nd → G b = some o → upd H2 d (.dK [(.inr z, .ref n)]) b = some o := fun b o n1 n2 e => by
        by_cases q : b = d
        · subst q; rw [upd_same, ← gd]; exact e
        · rw [upd_ne q]; exact kk b o n1 n2 (upd_get q e)
      refine k x _ ?_ ⟨⟨dx, c, st, ct, nd, sh, k2 _ _ ps pn gp, upd_get dn hN⟩, upd_same, ?_, ?_⟩
      · exact fun b o nb e => k2 b o (fun q => by rw [q, hs0] at e; cases e) (fun q => by rw [q, hn0] at e; cases e) (kG b o nb e)
      · obtain ⟨ndx, e⟩ := NG.at_
        exact ⟨⟨ndx, k2 _ _ (ne_of e gs (by intro z; cases z)) (ne_of e gn (by intro z; cases z)) e⟩, NG.lo, NG.hi, NG.wd⟩
      · obtain ⟨xd, fs, e, _⟩ := hX.ins
        have xd' : x ≠ d := ne_of e hd1 (by intro z; cases z)
        cases wd with
        | none => obtain ⟨dx, e⟩ := hX; exact ⟨dx, upd_get xd' e⟩
        | some W => obtain ⟨dx, e⟩ := hX; exact ⟨dx, upd_get xd' e⟩
end
end Me
set_option maxHeartbeats 8000000
namespace Me
open PySem L2


/-- a comprehension over the signs of a text -/
theorem lc_its {x : Str} {g : TG} {tt : TT} {te : TE} {vs : List Nat} {σ : L2.St} {H1 : Hp} {D : Addr} {Qd : Hp → Prop} (Pv : Nat → Hp → Prop) (h0 : Pv 0 (upd H1 D (.lst [])))
    (hs : ∀ i c H, x.cps[i]? = some c → Pv i H → g (.str ⟨#[c]⟩) (wipe σ vs) H fun σ2 H2 => wipe σ2 vs = wipe σ vs ∧ tt σ2 H2 fun b H3 =>
      if b = true then te σ2 H3 fun y H4 => ∃ acc, H4 D = some (.lst acc) ∧ acc.length < sizeLine ∧ Pv (i + 1) (upd H4 D (.lst (acc ++ [y]))) else Pv (i + 1) H3) (hd : ∀ H, Pv x.cps.size H → Qd H) :
    ∃ W : Nat → Nat → Hp → Prop, (∃ m, W 0 m (upd H1 D (.lst []))) ∧ ∀ i m H, W i m H →
      ((Its x).stop i H ∧ Qd H) ∨ ((Its x).go i H ∧ ∃ Nx : Hp → Prop, (∀ H', Nx H' → ∃ m', m' < m ∧ W (i + 1) m' H') ∧ ∀ v H', (Its x).yld i H v H' → g v (wipe σ vs) H' fun σ2 H2 => wipe σ2 vs = wipe σ vs ∧ tt σ2 H2 fun b H3 =>
        if b = true then te σ2 H3 fun y H4 => ∃ acc, H4 D = some (.lst acc) ∧ acc.length < sizeLine ∧ Nx (upd H4 D (.lst (acc ++ [y]))) else Nx H3) := by
  refine ⟨fun i m H => m = x.cps.size - i ∧ i ≤ x.cps.size ∧ Pv i H, ⟨x.cps.size, by simp, Nat.zero_le _, h0⟩, ?_⟩
  rintro i m H ⟨rfl, hi, p⟩
  by_cases lt : i < x.cps.size
  · refine .inr ⟨lt, Pv (i + 1), fun H' p' => ⟨x.cps.size - (i + 1), by omega, rfl, lt, p'⟩, fun v H' y => ?_⟩
    obtain ⟨rfl, c, hc, rfl⟩ := y
    exact hs i c _ hc p
  · have e : i = x.cps.size := by omega
    subst e
    exact .inl ⟨Nat.le_refl _, hd H p⟩
def letterB (c : Nat) : Bool := decide (97 ≤ c) && decide (c ≤ 122)
def nameS (z : Str) : Bool := (decide (1 ≤ z.length) && decide (z.length ≤ 8)) && z.cps.toList.all letterB
theorem le_a (c : Nat) : (!decide (([c] : List Nat) < [97])) = decide (97 ≤ c) := by
  by_cases h : 97 ≤ c
  · have n : ¬ ([c] : List Nat) < [97] := by simp [List.cons_lt_cons_iff]; omega
    rw [decide_eq_true h, decide_eq_false n]; rfl
  · have n : ([c] : List Nat) < [97] := by simp [List.cons_lt_cons_iff]; omega
    rw [decide_eq_false h, decide_eq_true n]; rfl
theorem le_z (c : Nat) : (!decide (([122] : List Nat) < [c])) = decide (c ≤ 122) := by
  by_cases h : c ≤ 122
  · have n : ¬ ([122] : List Nat) < [c] := by simp [List.cons_lt_cons_iff]; omega
    rw [decide_eq_true h, decide_eq_false n]; rfl
  · have n : ([122] : List Nat) < [c] := by simp [List.cons_lt_cons_iff]; omega
    rw [decide_eq_false h, decide_eq_true n]; rfl
theorem take_cps {z : Str} {i c : Nat} (h : z.cps[i]? = some c) : z.cps.toList.take (i + 1) = z.cps.toList.take i ++ [c] := by
  have h2 : z.cps.toList[i]? = some c := by rw [Array.getElem?_toList]; exact h
  obtain ⟨lt, e⟩ := List.getElem?_eq_some_iff.mp h2
  rw [← e]
  exact (List.take_append_getElem lt).symm
def lets (z : Str) (i : Nat) : List V := (z.cps.toList.take i).map fun c => V.bl (letterB c)
theorem lets_step {H : Hp} {D : Addr} {z : Str} {i c : Nat} {b : Bool} (hz : z.length ≤ 100) (hc : z.cps[i]? = some c) (hb : b = letterB c) :
    ∃ acc, upd H D (.lst (lets z i)) D = some (.lst acc) ∧ acc.length < sizeLine ∧ upd (upd H D (.lst (lets z i))) D (.lst (acc ++ [V.bl b])) = upd H D (.lst (lets z (i + 1))) := by
  refine ⟨lets z i, upd_same, ?_, ?_⟩
  · have e : (lets z i).length ≤ z.length := by
      show ((z.cps.toList.take i).map _).length ≤ z.cps.size
      rw [List.length_map, List.length_take, Array.length_toList]
      omega
    exact Nat.lt_of_le_of_lt (Nat.le_trans e hz) (by decide)
  · rw [upd_upd]
    have e : lets z (i + 1) = lets z i ++ [V.bl (letterB c)] := by
      show (z.cps.toList.take (i + 1)).map _ = _
      rw [take_cps hc, List.map_append]; rfl
    rw [e, hb]
theorem lets_all {z : Str} : (lets z z.cps.size) = (z.cps.toList.map letterB).map V.bl := by
  show (z.cps.toList.take _).map _ = _
  rw [List.take_of_length_le (by rw [Array.length_toList]; exact Nat.le_refl _), List.map_map]; rfl
section
variable {P : Program} {w : World} {K : PySem.W.Frag} {mg : Str → Option Value} {base : Heap} {a : Ad}
def spIsNm : Sp := fun vs H Q _ => ∃ z : Str, vs = [.str z] ∧ nameS z = true ∧ ∀ H', Same H H' → Q (.bl true) H'
theorem ok_is_name (T : Txt P K mg a) : FnOk P w K mg base CX0 1 a.is_name.f a.is_name.fd ["thing"] spIsNm := by
  have sc : FnScope ["thing", "letter"] ["thing"] (defScope (top 4)) := ⟨rfl, rfl, rfl, by decide +kernel, rfl, by decide +kernel, by decide +kernel⟩
  refine T.is_name.ok sc (fun vs H Q E h => ?_) (fun cdv A outer s H vs Q E hr h => ?_)
  · obtain ⟨z, rfl, _⟩ := h; rfl
  · obtain ⟨z, rfl, hz, k⟩ := h
    refine ⟨_, (pss_cons (ps_if (PW.pt (pw_or (pt_not (pt_val (pe_callB call_isi (by rfl) T.isinstance (by decide +kernel) (pa_cons (pv 0) (pa_cons (pe_bltn (v := .ty "str") (by rfl) T.str (by decide +kernel) rfl) pa_nil))))) (pw_or1 (pt_not (pt_chain op_le op_le pe_int (pe_callB call_len_str (by rfl) T.len PySem.boot_len (pa_cons (pv 0) pa_nil)) pe_int)))))
      (pss_one (ps_ret pe_bl))
      pss_nil)
      (pss_one (ps_ret (pe_callB (cr_all rfl) (by rfl) T.all (by decide +kernel) (pa_cons (pe_lc (own := [("letter", 1)]) (g := gName 1) (by rfl) sc.nd (pi_str (pv 0)) (blkOk_by (own := [("letter", 1)]) (N := ["thing", "letter"]) (sc := defScope (top 4)) (by decide +kernel)) (fun _ _ _ _ _ => pg_name (i := 1) sc.nd rfl (Or.inl rfl)) (fun _ _ _ _ _ => pts_nil) (fun _ _ _ _ _ => (by exact (pe_chain op_le_str op_le_str pe_str (pv 1) pe_str)))) pa_nil))))), ?_⟩
    have hz2 : 1 ≤ z.length ∧ z.length ≤ 8 ∧ z.cps.toList.all letterB = true := by
      unfold nameS at hz
      rw [Bool.and_eq_true, Bool.and_eq_true, decide_eq_true_eq, decide_eq_true_eq] at hz
      exact ⟨hz.1.1, hz.1.2, hz.2⟩
    obtain ⟨z1, z2, z3⟩ := hz2
    walk_at "go"
    refine i_no rfl ?_
    walk_at "go"
    refine ⟨_, rfl, z, rfl, Nat.le_trans z2 (by decide), _, _, rfl, rfl, _, rfl, ?_⟩
    refine i_itd (fun h1 => ?_) (fun h1 => absurd (show (1 : Int) ≤ (z.length : Int) by omega) h1)
    refine ⟨_, _, rfl, rfl, _, rfl, ?_⟩
    refine i_itn (fun h2 => absurd (show (z.length : Int) ≤ 8 by omega) h2) (fun h2 => ?_)
    walk_at "go"
    refine ⟨_, rfl, z, rfl, fun D nD => ?_⟩
    refine lc_its (Qd := fun H' => ∃ (a : Addr) (bs : List Bool), [V.ref D] = [V.ref a] ∧ SqL K H' a (bs.map V.bl) ∧ Q (.bl (bs.all id)) H') (fun i H' => H' = upd H D (.lst (lets z i))) rfl (fun i c H1 hc e => ?_) (fun H1 e => ?_)
    · subst e
      refine ⟨rfl, ?_⟩
      unfold tYes
      with_reducible refine L2.iteT ?_
      refine ⟨_, rfl, _, _, rfl, rfl, _, rfl, ?_⟩
      refine i_itb (fun h1 => ?_) (fun h1 => ?_)
      · have h1 : decide (97 ≤ c) = true := (le_a c).symm.trans h1
        refine ⟨_, _, rfl, rfl, lets_step (Nat.le_trans z2 (by decide)) hc ?_⟩
        refine Eq.trans (le_z c) ?_
        unfold letterB
        rw [h1]; rfl
      · have h1 : decide (97 ≤ c) = false := (le_a c).symm.trans h1
        refine lets_step (Nat.le_trans z2 (by decide)) hc ?_
        unfold letterB
        rw [h1]; rfl
    · subst e
      refine ⟨D, z.cps.toList.map letterB, rfl, SqL.of (by rw [upd_same, lets_all]), ?_⟩
      have e : (z.cps.toList.map letterB).all id = true := by rw [List.all_map]; exact z3
      rw [e]
      exact k _ (same_upd nD)
end
end Me
set_option maxHeartbeats 8000000
namespace Me
open PySem L2


section
variable {P : Program} {w : World} {K : PySem.W.Frag} {mg : Str → Option Value} {base : Heap} {a : Ad}
theorem ok_named_kind (T : Txt P K mg a) : FnOk P w K mg base CX0 2 a.is_named_kind.f a.is_named_kind.fd ["thing"] (spAsk a true) := by
  have G_is_simple := ok_is_simple (P := P) (w := w) (base := base) T
  have sc : FnScope ["thing"] ["thing"] (defScope (top 85)) := ⟨rfl, rfl, rfl, by decide +kernel, rfl, by decide +kernel, by decide +kernel⟩
  refine T.is_named_kind.ok sc (fun vs H Q E h => ?_) (fun cdv A outer s H vs Q E hr h => ?_)
  · obtain ⟨p, l, h2, wd, rfl, _⟩ := h; rfl
  · obtain ⟨p, l, h2, wd, rfl, N, k⟩ := h
    refine ⟨_, (pss_one (ps_ret (pe_or (pe_call G_is_simple (hr.mono (by first | decide | omega)) rfl T.is_simple.mg T.is_simple.kp T.is_simple.b .nil pass0 (pa_cons (pv 0) pa_nil)) (pe_one (pe_callB call_isiT (by rfl) T.isinstance (by decide +kernel) (pa_cons (pv 0) (pa_cons (pe_tup (pa_cons (pe_glob (v := .ref a.c_Choice) rfl T.Choice rfl) (pa_cons (pe_glob (v := .ref a.c_Row) rfl T.Row rfl) pa_nil))) pa_nil))))))), ?_⟩
    walk_at "go"
    refine ⟨p, l, h2, wd, rfl, N, fun H1 s1 => ?_⟩
    exact ⟨true, rfl, i_yes rfl (k _ s1)⟩
def spKinds (a : Ad) : Sp := fun vs H Q _ => ∃ (d p : Addr) (z : Str) (low high : Int) (wd : Option Nat), vs = [.ref d] ∧ nameS z = true ∧ H d = some (.dK [(.inr z, .ref p)]) ∧ NumAt a.c_Number H p low high wd ∧ ∀ H', Same H H' → Q (.bl true) H'
theorem ok_are_kinds (T : Txt P K mg a) : FnOk P w K mg base CX0 3 a.are_kinds.f a.are_kinds.fd ["thing"] (spKinds a) := by
  have G_is_name := ok_is_name (P := P) (w := w) (base := base) T
  have G_is_named_kind := ok_named_kind (P := P) (w := w) (base := base) T
  have sc : FnScope ["thing", "name"] ["thing"] (defScope (top 84)) := ⟨rfl, rfl, rfl, by decide +kernel, rfl, by decide +kernel, by decide +kernel⟩
  refine T.are_kinds.ok sc (fun vs H Q E h => ?_) (fun cdv A outer s H vs Q E hr h => ?_)
  · obtain ⟨d, p, z, l, h2, wd, rfl, _⟩ := h; rfl
  · obtain ⟨d, p, z, l, h2, wd, rfl, hz, hd, N, k⟩ := h
    refine ⟨_, (pss_cons (ps_if (PW.pt (pw_or (pt_not (pt_val (pe_callB call_isi (by rfl) T.isinstance (by decide +kernel) (pa_cons (pv 0) (pa_cons (pe_bltn (v := .ty "dict") (by rfl) T.dict (by decide +kernel) rfl) pa_nil))))) (pw_or1 (pt_not (pt_chain op_le op_le pe_int (pe_callB call_lenD (by rfl) T.len PySem.boot_len (pa_cons (pv 0) pa_nil)) pe_int)))))
      (pss_one (ps_ret pe_bl))
      pss_nil)
      (pss_one (ps_lock (ps_ret (pe_callB (cr_all rfl) (by rfl) T.all (by decide +kernel) (pa_cons (pe_lc (own := [("name", 1)]) (g := gName 1) (by rfl) sc.nd (pi_keys (pv 0)) (blkOk_by (own := [("name", 1)]) (N := ["thing", "name"]) (sc := defScope (top 84)) (by decide +kernel)) (fun _ _ _ _ _ => pg_name (i := 1) sc.nd rfl (Or.inl rfl)) (fun _ _ _ _ _ => pts_nil) (fun _ _ _ _ _ => (by exact (pe_and (pe_call G_is_name (hr.mono (by first | decide | omega)) rfl T.is_name.mg T.is_name.kp T.is_name.b .nil pass0 (pa_cons (pv 1) pa_nil)) (pe_one (pe_call G_is_named_kind (hr.mono (by first | decide | omega)) rfl T.is_named_kind.mg T.is_named_kind.kp T.is_named_kind.b .nil pass0 (pa_cons (pe_dget (hu_of hr) (pv 0) (pv 1) (fun _ _ => rfl)) pa_nil))))))) pa_nil)))))), ?_⟩
    walk_at "go"
    refine i_no rfl ?_
    walk_at "go"
    refine ⟨_, rfl, d, _, rfl, hd, ?_⟩
    refine ⟨_, _, rfl, rfl, _, rfl, i_yes rfl ?_⟩
    refine ⟨_, _, rfl, rfl, _, rfl, ?_⟩
    refine i_no rfl ?_
    walk_at "go"
    have dp : p ≠ d := fun e => by
      obtain ⟨dx, e2⟩ := N
      rw [e, hd] at e2
      cases e2
    refine ⟨d, _, hd, mut_dK, fun od => ?_⟩
    refine i_ret ?_
    walk_at "go"
    refine ⟨_, rfl, d, od, rfl, .inl ⟨_, upd_same, fun D nD => ?_⟩⟩
    have s1 := same_upd (o := .lst []) nD
    refine lc_it walk_keys (fun i H' => Same (upd H d (.frz od (.dK [(.inr z, .ref p)]))) H' ∧ H' D = some (.lst (List.replicate i (.bl true)))) ⟨s1, upd_same⟩ (fun i H' _ h => h.1 _ _ upd_same) (fun i x H1 H' hi h y => ?_) (fun H' h => ?_)
    · obtain ⟨rfl, k', v', ek, rfl⟩ := y
      have i0 : i = 0 := by simp at hi; omega
      subst i0
      cases ek
      obtain ⟨s2, hD⟩ := h
      refine ⟨rfl, ?_⟩
      unfold tYes
      with_reducible refine L2.iteT ?_
      refine i_andV ?_
      refine i_call ?_
      refine ⟨_, rfl, z, rfl, hz, fun H2 s3 => ?_⟩
      refine ⟨true, rfl, i_yes rfl ?_⟩
      refine i_call ?_
      refine ⟨_, rfl, _, rfl, d, .ref p, rfl, .inl ⟨_, .inr z, .inr ⟨_, s3 _ _ (s2 _ _ upd_same)⟩, rfl, val_one.symm⟩, ?_⟩
      have N2 : NumAt a.c_Number H2 p l h2 wd := by
        obtain ⟨dx, e⟩ := N
        exact ⟨dx, s3 _ _ (s2 _ _ (upd_get dp e))⟩
      refine i_nil ⟨p, l, h2, wd, rfl, N2, fun H3 s4 => ?_⟩
      have hD3 := s4 _ _ (s3 _ _ hD)
      have s5 : Same (upd H d (.frz od (.dK [(.inr z, .ref p)]))) H3 := fun b o e => s4 b o (s3 b o (s2 b o e))
      have Dd : d ≠ D := ne_of_none upd_same nD
      refine ⟨_, hD3, by decide, fun b o e => ?_, upd_same⟩
      rw [upd_ne (ne_of_none e nD)]
      exact s5 b o e
    · obtain ⟨s2, hD⟩ := h
      have hd2 := s2 _ _ upd_same
      refine ⟨D, [true], rfl, SqL.of hD, ?_⟩
      refine ⟨hd2, k _ fun b o e => ?_⟩
      by_cases q : b = d
      · subst q; rw [upd_same, ← hd]; exact e
      · rw [upd_ne q]; exact s2 _ _ (upd_get q e)
def spParts (a : Ad) : Sp := fun vs H Q _ => ∃ (d p : Addr) (z : Str) (low high : Int) (wd : Option Nat), vs = [.ref d, .str z, .int 1] ∧ nameS z = true ∧ H d = some (.dK [(.inr z, .ref p)]) ∧ NumAt a.c_Number H p low high wd ∧ ∀ H', Same H H' → Q .non H'
theorem ok_check_parts (T : Txt P K mg a) : FnOk P w K mg base CX0 4 a.check_parts.f a.check_parts.fd ["kinds", "root", "count"] (spParts a) := by
  have G_are_kinds := ok_are_kinds (P := P) (w := w) (base := base) T
  have G_is_int_within : FnOk P w K mg base CX0 2 a.is_int_within.f a.is_int_within.fd ["thing", "least", "most"] spWithin := ok_within T
  have sc : FnScope ["kinds", "root", "count"] ["kinds", "root", "count"] (defScope (top 83)) := ⟨rfl, rfl, rfl, by decide +kernel, rfl, by decide +kernel, by decide +kernel⟩
  refine T.check_parts.ok sc (fun vs H Q E h => ?_) (fun cdv A outer s H vs Q E hr h => ?_)
  · obtain ⟨d, p, z, l, h2, wd, rfl, _⟩ := h; rfl
  · obtain ⟨d, p, z, l, h2, wd, rfl, hz, hd, N, k⟩ := h
    refine ⟨_, (pss_cons (ps_if (pt_not (pt_val (pe_call G_are_kinds (hr.mono (by first | decide | omega)) rfl T.are_kinds.mg T.are_kinds.kp T.are_kinds.b .nil pass0 (pa_cons (pv 0) pa_nil))))
      (pss_one ps_never)
      pss_nil)
      (pss_cons (ps_if (PW.pt (pw_or (pt_not (pt_val (pe_callB call_isi (by rfl) T.isinstance (by decide +kernel) (pa_cons (pv 1) (pa_cons (pe_bltn (v := .ty "str") (by rfl) T.str (by decide +kernel) rfl) pa_nil))))) (pw_or1 (pt_cmp (pc_dnotin (hu_of hr) (pv 1) (pv 0))))))
      (pss_one ps_never)
      pss_nil)
      (pss_one (ps_if (pt_not (pt_val (pe_call G_is_int_within (hr.mono (by first | decide | omega)) rfl T.is_int_within.mg T.is_int_within.kp T.is_int_within.b .nil pass0 (pa_cons (pv 2) (pa_cons pe_int (pa_cons pe_int pa_nil))))))
      (pss_one ps_never)
      pss_nil)))), ?_⟩
    walk_at "go"
    refine ⟨d, p, z, l, h2, wd, rfl, hz, hd, N, fun H1 s1 => ?_⟩
    refine ⟨_, rfl, i_no rfl ?_⟩
    walk_at "go"
    refine i_no rfl ?_
    walk_at "go"
    refine ⟨_, rfl, _, rfl, d, _, rfl, .inl ⟨_, .inr z, .inl (s1 _ _ hd), rfl, val_one.symm⟩, ?_⟩
    refine ⟨_, rfl, i_no rfl ?_⟩
    walk_at "go"
    refine ⟨_, _, _, rfl, .int _, _, rfl, i_no (by decide +kernel) ?_⟩
    walk_at "go"
    exact k _ s1
end
end Me
set_option maxHeartbeats 8000000
namespace Me
open PySem L2


theorem Df.okC {P : Program} {w : World} {K : PySem.W.Frag} {mg : Str → Option Value} {base : Heap} {x : Str} {st : Stmt} {ps ps' N : List Str} {d : DA} {k : Nat} {sp : Sp} (D : Df K mg x st ps' d) (S : FnScope N ps (defScope st)) (len : ∀ vs H Q E, sp vs H Q E → vs.length = ps.length)
    (go : ∀ (cdv : Value) (A : Around) (outer : List Env) (s : Shared) (H : Hp) (vs : List V) (Q : VK) (E : XK), d.fd.code = cdv → Room k (A.deeper (PyProof.Rows.envOfC x (defScope st) s.heap.objs.size d.f cdv)) → sp vs H Q E →
      ∃ t, PSs (cxOf CX0 P w K mg base N x (defScope st) d.f cdv A outer s H E).nox (defBody st) t ∧ t { nx := fun _ H' => Q .non H', rt := Q } (start N vs) H) : FnOk P w K mg base CX0 (k + 1) d.f d.fd ps sp := by
  obtain ⟨oc, od, dV, kV, doc, pm, an, cdv, ct, osl, e, lk, hcd, _, _⟩ := D.fn.ex
  have hc : d.fd.code = cdv := by rw [e] <;> rfl
  rw [e] at lk ⊢
  refine fn_of lk hcd S len fun A outer s H vs Q E hr h => ?_
  obtain ⟨t, h1, q⟩ := go cdv A outer s H vs Q E hc hr h
  exact ⟨t, h1.nox, q⟩
def tabs (a : Ad) : List (Addr × Str) := [(a.tp, ("check_rooms" : Str) ++ ".<locals>." ++ "<lambda>")]
theorem PlanAt.ext {a : Ad} {H H' : Hp} {p d n x : Addr} {z : Str} {low : Int} {m : Nat} {wd : Option Nat} (h : PlanAt a H p d n x z low m wd) (s : LamX.ExtN H H') : PlanAt a H' p d n x z low m wd := by
  obtain ⟨⟨dx, c, st, ct, nd, sh, e1, e2⟩, e3, ⟨⟨ndx, e4⟩, n1, n2, n3⟩, e5⟩ := h
  refine ⟨⟨dx, c, st, ct, nd, sh, s _ _ e1 (fun _ z => by cases z), s _ _ e2 (fun _ z => by cases z)⟩, s _ _ e3 (fun _ z => by cases z), ⟨⟨ndx, s _ _ e4 (fun _ z => by cases z)⟩, n1, n2, n3⟩, ?_⟩
  cases wd with
  | none => obtain ⟨dx, e⟩ := e5; exact ⟨dx, s _ _ e (fun _ z => by cases z)⟩
  | some W => obtain ⟨dx, e⟩ := e5; exact ⟨dx, s _ _ e (fun _ z => by cases z)⟩
section
variable {P : Program} {w : World} {K : PySem.W.Frag} {mg : Str → Option Value} {base : Heap} {a : Ad}
def spRoom (a : Ad) : Sp := fun vs H Q _ => ∃ (p d n x : Addr) (z : Str) (low : Int) (m : Nat) (wd : Option Nat), vs = [.ref p, .str z] ∧ PlanAt a H p d n x z low m wd ∧ Q .non H
theorem ok_taken_room (T : Txt P K mg a) : FnOk P w K mg base CX0 1 a.taken_room.f a.taken_room.fd ["plan", "name"] (spRoom a) := by
  have sc : FnScope ["plan", "name", "kind", "number", "part", "follow"] ["plan", "name"] (defScope (top 87)) := ⟨rfl, rfl, rfl, by decide +kernel, rfl, by decide +kernel, by decide +kernel⟩
  refine T.taken_room.ok sc (fun vs H Q E h => ?_) (fun cdv A outer s H vs Q E hr h => ?_)
  · obtain ⟨p, d, n, x, z, low, m, wd, rfl, _⟩ := h; rfl
  · obtain ⟨p, d, n, x, z, low, m, wd, rfl, ⟨⟨dx, c, st, ct, nd, sh, hp, hn⟩, hd, N, X⟩, k⟩ := h
    refine ⟨_, (pss_cons (ps_set (i := 2) sc.nd rfl (by first | exact Or.inl rfl | exact Or.inr rfl) (pe_dget (hu_of hr) (pe_fld (pv 0) rfl) (pv 1) (fun _ _ => rfl)))
      (pss_cons (ps_if (pt_not (pt_val (pe_callB call_isi (by rfl) T.isinstance (by decide +kernel) (pa_cons (pv 2) (pa_cons (pe_glob (v := .ref a.c_Row) rfl T.Row rfl) pa_nil)))))
      (pss_one (ps_ret pe_non))
      pss_nil)
      pss_never)), ?_⟩
    have cl := T.cl_Plan
    have no : ∀ f ∈ fields, NoAttr K a.c_Plan f := T.no_Plan
    obtain ⟨ndx, e⟩ := N.at_
    walk_at "go"
    refine i_fld1 rfl hp cl (no _ (by decide)) rfl ?_
    refine ⟨_, rfl, d, .ref n, rfl, .inl ⟨_, .inr z, .inl hd, rfl, val_one.symm⟩, ?_⟩
    walk_at "go"
    refine i_isiN (T.ty_Number _ _ _ _ e) T.kt_Number_Row ?_
    walk_at "go"
    refine i_yes rfl ?_
    walk_at "go"
    exact k
def spRooms (a : Ad) : Sp := fun vs H Q _ => ∃ (p d n x r l : Addr) (z : Str) (low : Int) (m : Nat) (wd : Option Nat), vs = [.ref p, .ref r] ∧ PlanAt a H p d n x z low m wd ∧ H r = some (.dK [(.inr z, .ref l)]) ∧ H l = some (.lst []) ∧ LamX.Tabs (tabs a) H ∧ ∀ H', LamX.ExtN H H' → LamX.Tabs (tabs a) H' → Q .non H'
theorem ok_check_rooms (T : Txt P K mg a) (TB : LamX.TabB base mg a.tc a.tp) : FnOk P w K mg base CX0 4 a.check_rooms.f a.check_rooms.fd ["plan", "reached"] (spRooms a) := by
  have G_taken_room := ok_taken_room (P := P) (w := w) (base := base) T
  have sc : FnScope ["plan", "reached", "faults", "name", "called", "room"] ["plan", "reached"] (defScope (top 86)) := ⟨rfl, rfl, rfl, by decide +kernel, rfl, by decide +kernel, by decide +kernel⟩
  refine T.check_rooms.okC sc (fun vs H Q E h => ?_) (fun cdv A outer s H vs Q E hcode hr h => ?_)
  · obtain ⟨p, d, n, x, r, l, z, low, m, wd, rfl, _⟩ := h; rfl
  · obtain ⟨p, d, n, x, r, l, z, low, m, wd, rfl, PL, hr1, hl, Tb, k⟩ := h
    rw [T.code] at hcode
    subst hcode
    have hcode : (cxOf CX0 P w K mg base ["plan", "reached", "faults", "name", "called", "room"] "check_rooms" (defScope (top 86)) a.check_rooms.f (.ref a.tc) A outer s H E).nox.env.code = .ref a.tc := rfl
    refine ⟨_, (pss_cons (ps_set (i := 2) sc.nd rfl (by first | exact Or.inl rfl | exact Or.inr rfl) pe_dnewK)
      (pss_cons (ps_for PassesOwn.never rfl (pi_list (pe_sortK (i := 1) (k := 2) TB hcode (List.mem_singleton.mpr rfl) (fun p hp _ => by rw [List.mem_singleton.mp hp]) (hr.mono (by decide)) rfl rfl T.sorted T.len (by rfl) (by rfl))) (pg_name (i := 3) sc.nd rfl (by first | exact Or.inl rfl | exact Or.inr rfl))
      (pss_one (ps_if (pt_not (pt_val (pe_callB (cr_any rfl) (by rfl) T.any (by decide +kernel) (pa_cons (pe_lc (own := [("called", 4)]) (g := gName 4) (by rfl) sc.nd (pi_list (pe_dget (hu_of hr) (pv 1) (pv 3) (fun _ _ => rfl))) (blkOk_by (own := [("called", 4)]) (N := ["plan", "reached", "faults", "name", "called", "room"]) (sc := defScope (top 86)) (by decide +kernel)) (fun _ _ _ _ _ => pg_name (i := 4) sc.nd rfl (Or.inl rfl)) (fun _ _ _ _ _ => pts_nil) (fun _ _ _ _ _ => (by exact pe_never))) pa_nil))))
      (pss_cons (ps_set (i := 5) sc.nd rfl (by first | exact Or.inl rfl | exact Or.inr rfl) (pe_call G_taken_room (hr.mono (by first | decide | omega)) rfl T.taken_room.mg T.taken_room.kp T.taken_room.b .nil pass0 (pa_cons (pv 0) (pa_cons (pv 3) pa_nil))))
      (pss_one (ps_if (pt_cmpR op_notN (pv 5) pe_non (nomark _))
      (pss_one ps_never)
      pss_nil)))
      pss_nil)))
      (pss_one (ps_if (pt_cmpR (op_ne_dictA (Nat.lt_of_le_of_lt (Nat.le_add_right _ 64) hr.units)) (pv 2) pe_dnewK (nomark _))
      (pss_one ps_never)
      pss_nil)))), ?_⟩
    walk_at "go"
    rename_i f nf
    have s0 := same_upd (o := .dK []) nf
    refine ⟨Tb.ext s0, r, l, z, rfl, s0 _ _ hr1, s0 _ _ hl, fun H1 e1 T1 t nt => ?_⟩
    have e0 : LamX.ExtN H H1 := (LamX.ExtN.of s0).trans e1
    have hf1 := e1 _ _ (upd_same (H := H) (a := f) (o := .dK [])) (fun _ z => by cases z)
    have hr2 := e0 _ _ hr1 (fun _ z => by cases z)
    have hl2 := e0 _ _ hl (fun _ z => by cases z)
    have PL2 := PL.ext e0
    have s2 := same_upd (o := .lst [.str z]) nt
    refine ⟨t, rfl, ⟨_, SqL.of upd_same⟩, ?_⟩
    refine for_list (K := K) (a := t) (xs := [.str z]) (fun i σ' H' => (∃ v3 v4 v5, σ' = [some (.ref p), some (.ref r), some (.ref f), v3, v4, v5]) ∧ Same (upd H1 t (.lst [.str z])) H') ⟨⟨_, _, _, rfl⟩, fun _ _ e => e⟩ (fun i σ' H' _ h => SqL.of (h.2 _ _ upd_same)) (fun i v σ' H' hv h => ?_) (fun σ' H' h => ?_)
    · match i, hv with
      | 0, hv =>
        cases hv
        obtain ⟨⟨v3, v4, v5, rfl⟩, sH⟩ := h
        refine i_gname ?_
        walk_at "go"
        have hr3 := sH _ _ (s2 _ _ hr2)
        have hl3 := sH _ _ (s2 _ _ hl2)
        refine ⟨_, rfl, _, rfl, r, .ref l, rfl, .inl ⟨_, .inr z, .inl hr3, rfl, val_one.symm⟩, ?_⟩
        refine ⟨l, rfl, ⟨_, SqL.of hl3⟩, fun D nD => ?_⟩
        refine lc_list (K := K) (a := l) (xs := []) (fun i G => G = upd H' D (.lst [])) rfl (fun i G _ h => ?_) (fun i x G hx => ?_) (fun G h => ?_)
        · rw [h]; exact SqL.of (same_upd nD _ _ hl3)
        · cases hx
        · subst h
          have s4 := same_upd (o := .lst []) nD
          refine ⟨D, [], rfl, SqL.of upd_same, ?_⟩
          refine ⟨_, rfl, i_yes rfl ?_⟩
          walk_at "go"
          refine ⟨p, d, n, x, z, low, m, wd, rfl, ((PL2.same s2).same sH).same s4, ?_⟩
          walk_at "go"
          refine ⟨rfl, _, rfl, i_no rfl ?_⟩
          refine ⟨⟨_, _, _, rfl⟩, fun b o e => s4 b o (sH b o e)⟩
      | i + 1, hv => simp at hv
    · obtain ⟨⟨v3, v4, v5, rfl⟩, sH⟩ := h
      walk_at "go"
      rename_i f2 nf2
      have s4 := same_upd (o := .dK []) nf2
      refine ⟨f, f2, [], [], rfl, rfl, s4 _ _ (sH _ _ (s2 _ _ hf1)), upd_same, rfl, (fun _ hp => by cases hp), ?_⟩
      refine ⟨_, rfl, i_no rfl ?_⟩
      have s5 : Same H1 (upd H' f2 (.dK [])) := fun b o e => s4 b o (sH b o (s2 b o e))
      exact k _ (e0.trans (LamX.ExtN.of s5)) (T1.ext s5)
end
end Me
set_option maxHeartbeats 8000000
namespace Me
open PySem L2


/-- all but x and the tables stay -/
def KeptN (H : Hp) (x : Addr) (H' : Hp) : Prop := ∀ b o, b ≠ x → H b = some o → (∀ ps, o ≠ .tbl ps) → H' b = some o
/-- an edition whose one kind is a Number -/
def EdAt (a : Ad) (H : Hp) (e : Addr) (z : Str) (low : Int) (m : Nat) (wd : Option Nat) : Prop := ∃ dx d p n x, H e = some (.ins a.c_Edition dx [("_kinds", .ref d), ("root", .str z), ("count", .int 1), ("plan", .ref p)]) ∧ PlanAt a H p d n x z low m wd
theorem EdAt.same {a : Ad} {H H' : Hp} {e : Addr} {z : Str} {low : Int} {m : Nat} {wd : Option Nat} (h : EdAt a H e z low m wd) (s : Same H H') : EdAt a H' e z low m wd := by
  obtain ⟨dx, d, p, n, x, e1, PL⟩ := h
  exact ⟨dx, d, p, n, x, s _ _ e1, PL.same s⟩
theorem PlanAt.kept {a : Ad} {H H' : Hp} {p d n x y C dy : Addr} {v : V} {fs : List (Str × V)} {z : Str} {low : Int} {m : Nat} {wd : Option Nat} (h : PlanAt a H p d n x z low m wd) (s : Kept H y H') (hy : H y = some (.ins C dy (("_kinds", v) :: fs))) : PlanAt a H' p d n x z low m wd := by
  have ne : ∀ {b C2 d2 : Addr} {f : Str} {v2 : V} {fs2 : List (Str × V)}, H b = some (.ins C2 d2 ((f, v2) :: fs2)) → f ≠ "_kinds" → b ≠ y := fun e q => ne_of e hy (fun z => by
    injection z with _ _ z
    exact q (congrArg Prod.fst (List.cons.inj z).1))
  have k1 : ∀ {b C2 d2 : Addr} {f : Str} {v2 : V} {fs2 : List (Str × V)}, H b = some (.ins C2 d2 ((f, v2) :: fs2)) → f ≠ "_kinds" → H' b = some (.ins C2 d2 ((f, v2) :: fs2)) := fun e q => s _ _ (ne e q) e
  have k2 : ∀ {b : Addr} {kvs : List (Key × V)}, H b = some (.dK kvs) → H' b = some (.dK kvs) := fun e => s _ _ (ne_of e hy (by intro z; cases z)) e
  obtain ⟨⟨dx, c, st, ct, nd, sh, e1, e2⟩, e3, ⟨⟨ndx, e4⟩, n1, n2, n3⟩, e5⟩ := h
  refine ⟨⟨dx, c, st, ct, nd, sh, k1 e1 (by decide +kernel), k2 e2⟩, k2 e3, ⟨⟨ndx, k1 e4 (by decide +kernel)⟩, n1, n2, n3⟩, ?_⟩
  cases wd with
  | none => obtain ⟨dx, e⟩ := e5; exact ⟨dx, k1 e (by decide +kernel)⟩
  | some W => obtain ⟨dx, e⟩ := e5; exact ⟨dx, k1 e (by decide +kernel)⟩
theorem tabs_kept {Tt : List (Addr × Str)} {H H' : Hp} {p C dx : Addr} {fs : List (Str × V)} (t : LamX.Tabs Tt H) (hp : H p = some (.ins C dx fs)) (k : Kept H p H') : LamX.Tabs Tt H' := fun q hq => by
  obtain ⟨ps, h1, h2, h3⟩ := t q hq
  refine ⟨ps, k _ _ (fun z => by rw [z, hp] at h1; cases h1) h1, h2, fun pos cv hc => ?_⟩
  obtain ⟨c, e1, e2⟩ := h3 pos cv hc
  refine ⟨c, e1, k _ _ (fun z => ?_) e2⟩
  rw [z, hp] at e2
  have e2 := Option.some.inj e2
  unfold LamX.CodeO at e2
  cases e2
section
variable {P : Program} {w : World} {K : PySem.W.Frag} {mg : Str → Option Value} {base : Heap} {a : Ad}
def spEdI (a : Ad) : Sp := fun vs H Q _ => ∃ (e dx d n : Addr) (z : Str) (low : Int) (m : Nat) (wd : Option Nat), vs = [.ref e, .ref d, .str z, .int 1] ∧ nameS z = true ∧ H e = some (.ins a.c_Edition dx []) ∧ H d = some (.dK [(.inr z, .ref n)]) ∧ NumOk a.c_Number H n low m wd ∧ LamX.Tabs (tabs a) H ∧
  ∀ H', KeptN H e H' → LamX.Tabs (tabs a) H' → EdAt a H' e z low m wd → Q .non H'
theorem ok_ed_init (T : Txt P K mg a) (TB : LamX.TabB base mg a.tc a.tp) : FnOk P w K mg base CX0 9 a.m_Edition_init.f a.m_Edition_init.fd ["self", "kinds", "root", "count"] (spEdI a) := by
  have G_check_parts := ok_check_parts (P := P) (w := w) (base := base) T
  have G_checked_calls := ok_checked_calls (P := P) (w := w) (base := base) T
  have G_check_bodies := ok_check_bodies (P := P) (w := w) (base := base) T
  have G_check_rooms := ok_check_rooms (P := P) (w := w) (base := base) T TB
  have G_plan := ok_plan_init (P := P) (w := w) (base := base) T
  have sc : FnScope ["self", "kinds", "root", "count", "name", "reached"] ["self", "kinds", "root", "count"] (defScope (inClass (top 82) 0)) := ⟨rfl, rfl, rfl, by decide +kernel, rfl, by decide +kernel, by decide +kernel⟩
  refine ok0 T.m_Edition_init sc (fun vs H Q E h => ?_) (fun cdv A outer s H vs Q E hr h => ?_)
  · obtain ⟨e, dx, d, n, z, low, m, wd, rfl, _⟩ := h; rfl
  · obtain ⟨e, dx, d, n, z, low, m, wd, rfl, hz, he, hd, N, Tb, k⟩ := h
    refine ⟨_, (pss_cons (ps_expr (pe_call G_check_parts (hr.mono (by first | decide | omega)) rfl T.check_parts.mg T.check_parts.kp T.check_parts.b .nil pass0 (pa_cons (pv 1) (pa_cons (pv 2) (pa_cons (pv 3) pa_nil)))))
      (pss_cons (ps_fld (pv 0) (pe_lock (pe_dc (own := [("name", 4)]) (g := gName 4) (by rfl) sc.nd (pi_keys (pv 1)) (blkOk_by (own := [("name", 4)]) (N := ["self", "kinds", "root", "count", "name", "reached"]) (sc := defScope (inClass (top 82) 0)) (by decide +kernel)) (fun _ _ _ _ _ => pg_name (i := 4) sc.nd rfl (Or.inl rfl)) (fun _ _ _ _ _ => pts_nil) (fun _ _ _ _ _ => (by exact (pv 4))) (fun _ _ _ _ _ => (by exact (pe_dget (hu_of hr) (pv 1) (pv 4) (fun _ _ => rfl)))))) rfl)
      (pss_cons (ps_fld (pv 0) (pv 2) rfl)
      (pss_cons (ps_fld (pv 0) (pv 3) rfl)
      (pss_cons (ps_set (i := 5) sc.nd rfl (by first | exact Or.inl rfl | exact Or.inr rfl) (pe_call G_checked_calls (hr.mono (by first | decide | omega)) rfl T.checked_calls.mg T.checked_calls.kp T.checked_calls.b .nil pass0 (pa_cons (pe_fld (pv 0) rfl) pa_nil)))
      (pss_cons (ps_expr (pe_call G_check_bodies (hr.mono (by first | decide | omega)) rfl T.check_bodies.mg T.check_bodies.kp T.check_bodies.b .nil pass0 (pa_cons (pe_fld (pv 0) rfl) (pa_cons (pv 3) pa_nil))))
      (pss_cons (ps_fld (pv 0) (pe_make T.mk_Plan G_plan (hr.mono (by decide)) rfl T.Plan T.b_m_Plan_init .nil pass0 (pa_cons (pe_fld (pv 0) rfl) (pa_cons (pv 3) pa_nil))) rfl)
      (pss_one (ps_expr (pe_call G_check_rooms (hr.mono (by first | decide | omega)) rfl T.check_rooms.mg T.check_rooms.kp T.check_rooms.b .nil pass0 (pa_cons (pe_fld (pv 0) rfl) (pa_cons (pv 5) pa_nil)))))))))))), ?_⟩
    have cl := T.cl_Edition
    have no : ∀ f ∈ fields, NoAttr K a.c_Edition f := T.no_Edition
    have ed : e ≠ d := ne_of he hd (by intro z; cases z)
    walk_at "go"
    refine ⟨d, n, z, low, low + m - 1, wd, rfl, hz, hd, N.at_, fun H1 s1 => ?_⟩
    have he1 := s1 _ _ he
    have hd1 := s1 _ _ hd
    have N1 := N.same s1
    have Tb1 := Tb.ext s1
    walk_at "go"
    refine i_sfld ?_
    -- the dict of its own
    refine ⟨d, _, hd1, mut_dK, fun od => ?_⟩
    refine ⟨_, rfl, d, od, rfl, .inl ⟨_, upd_same, fun D nD => ?_⟩⟩
    have nDd : D ≠ d := fun e => by rw [e, upd_same] at nD; cases nD
    have nD' : H1 D = none := by rw [upd_ne nDd] at nD; exact nD
    refine dc_it walk_keys (fun i G => Same (upd H1 d (.frz od (.dK [(.inr z, .ref n)]))) G ∧ (i = 0 → G D = some (.dK [])) ∧ (i = 1 → G D = some (.dK [(.inr z, .ref n)]))) ⟨same_upd nD, fun _ => upd_same, fun e => absurd e (by decide)⟩ (fun i H' _ h => h.1 _ _ upd_same) (fun i x H2 H' hi h y => ?_) (fun G h => ?_)
    · obtain ⟨rfl, k', v', ek, rfl⟩ := y
      have i0 : i = 0 := by simp at hi; omega
      subst i0
      cases ek
      obtain ⟨s2, s3, _⟩ := h
      refine ⟨rfl, ?_⟩
      unfold tYes
      with_reducible refine L2.iteT ?_
      refine ⟨_, rfl, _, rfl, _, rfl, d, .ref n, rfl, .inl ⟨_, .inr z, .inr ⟨_, s2 _ _ upd_same⟩, rfl, val_one.symm⟩, ?_⟩
      refine ⟨[], .inr z, rfl, s3 rfl, by decide, fun b o e => ?_, fun e => absurd e (by decide), fun _ => upd_same⟩
      rw [upd_ne (ne_of_none e nD)]
      exact s2 _ _ e
    obtain ⟨s2, _, s3⟩ := h
    have hD := s3 rfl
    have hdG := s2 _ _ upd_same
    refine ⟨hdG, ?_⟩
    have sA : Same H1 (upd G d (.dK [(.inr z, .ref n)])) := fun b o e => by
      by_cases q : b = d
      · subst q; rw [upd_same, ← hd1]; exact e
      · rw [upd_ne q]; exact s2 _ _ (upd_get q e)
    have hD2 : upd G d (.dK [(.inr z, .ref n)]) D = some (.dK [(.inr z, .ref n)]) := upd_get nDd hD
    generalize upd G d (.dK [(.inr z, .ref n)]) = G1 at sA hD2 ⊢
    have sB : Same H G1 := fun b o e => sA b o (s1 b o e)
    have heG := sA _ _ he1
    have TbG := Tb1.ext sA
    have NG := N1.same sA
    have eD : e ≠ D := ne_of heG hD2 (by intro z; cases z)
    have ne_ : n ≠ e := by
      obtain ⟨ndx, en⟩ := NG.at_
      exact ne_of en heG (fun z => by injection z with _ _ z; cases z)
    walk_at "go"
    refine ⟨e, _, dx, [], rfl, heG, cl, no _ (by decide), by decide, ?_⟩
    walk_at "go"
    refine i_sfld ?_
    walk_at "go"
    refine ⟨e, _, dx, _, rfl, upd_same, cl, no _ (by decide), (by show 1 < 1000; decide), ?_⟩
    walk_at "go"
    refine i_sfld ?_
    walk_at "go"
    refine ⟨e, _, dx, _, rfl, upd_same, cl, no _ (by decide), (by show 2 < 1000; decide), ?_⟩
    dsimp only
    refine tgen (fun F => Kept G1 e F ∧ F e = some (.ins a.c_Edition dx [("_kinds", .ref D), ("root", .str z), ("count", .int 1)]) ∧ LamX.Tabs (tabs a) F) ⟨Kept.rfl'.upd.upd.upd, upd_same, ?_⟩ (fun F h => ?_)
    · exact tabs_kept TbG heG Kept.rfl'.upd.upd.upd
    obtain ⟨kF, heF, TbF⟩ := h
    have hDF := kF _ _ eD.symm hD2
    have NF : NumOk a.c_Number F n low m wd := by
      obtain ⟨ndx, en⟩ := NG.at_
      exact ⟨⟨ndx, kF _ _ ne_ en⟩, NG.lo, NG.hi, NG.wd⟩
    walk_at "go"
    refine i_fld1 rfl heF cl (no _ (by decide)) rfl ?_
    refine i_nil ⟨D, n, z, low, low + m - 1, wd, rfl, hDF, NF.at_, fun r l F1 s4 hr1 hl1 => ?_⟩
    have heF1 := s4 _ _ heF
    have hDF1 := s4 _ _ hDF
    walk_at "go"
    refine i_fld1 rfl heF1 cl (no _ (by decide)) rfl ?_
    walk_at "go"
    refine ⟨D, n, z, low, low + m - 1, wd, 1, rfl, by decide, hDF1, (NF.same s4).at_, fun F2 s5 => ?_⟩
    have heF2 := s5 _ _ heF1
    have hDF2 := s5 _ _ hDF1
    have NF2 := (NF.same s4).same s5
    walk_at "go"
    refine i_sfld ?_
    refine i_make ?_
    walk_at "go"
    refine i_fld1 rfl heF2 cl (no _ (by decide)) rfl ?_
    walk_at "go"
    intro p pdx np npdx nep
    have s6 : Same F2 (upd (upd F2 pdx (.own p)) p (.ins a.c_Plan pdx [])) := fun b o eb => by
      rw [upd_ne (ne_of_none eb np), upd_ne (ne_of_none eb npdx)]; exact eb
    refine ⟨p, n, pdx, D, z, 1, low, m, wd, rfl, upd_same, s6 _ _ hDF2, NF2.same s6, fun x F3 k3 PL => ⟨rfl, ?_⟩⟩
    have s7 : Same F2 F3 := fun b o eb => k3 b o (ne_of_none eb np) (s6 b o eb)
    have heF3 := s7 _ _ heF2
    walk_at "go"
    refine ⟨e, _, dx, _, rfl, heF3, cl, no _ (by decide), (by show 3 < 1000; decide), ?_⟩
    dsimp only
    have Tb3 : LamX.Tabs (tabs a) F3 := ((TbF.ext s4).ext s5).ext s7
    have hr3 := s7 _ _ (s5 _ _ hr1)
    have hl3 := s7 _ _ (s5 _ _ hl1)
    have kE : Kept F3 e (upd F3 e (.ins a.c_Edition dx (putF "plan" (.ref p) [("_kinds", .ref D), ("root", .str z), ("count", .int 1)]))) := Kept.rfl'.upd
    have PL4 := PL.kept kE heF3
    have Tb4 := tabs_kept Tb3 heF3 kE
    have hr4 := kE _ _ (ne_of hr3 heF3 (by intro z; cases z)) hr3
    have hl4 := kE _ _ (ne_of hl3 heF3 (by intro z; cases z)) hl3
    have he4 : (upd F3 e (.ins a.c_Edition dx (putF "plan" (.ref p) [("_kinds", .ref D), ("root", .str z), ("count", .int 1)]))) e = some (.ins a.c_Edition dx [("_kinds", .ref D), ("root", .str z), ("count", .int 1), ("plan", .ref p)]) := upd_same
    generalize upd F3 e (.ins a.c_Edition dx (putF "plan" (.ref p) [("_kinds", .ref D), ("root", .str z), ("count", .int 1)])) = F4 at kE PL4 Tb4 hr4 hl4 he4 ⊢
    walk_at "go"
    refine i_fld1 rfl he4 cl (no _ (by decide)) rfl ?_
    walk_at "go"
    refine ⟨p, D, n, x, r, l, z, low, m, wd, rfl, PL4, hr4, hl4, Tb4, fun F5 s8 Tb5 => ?_⟩
    refine k F5 (fun b o nb eb nt => ?_) Tb5 ⟨dx, D, p, n, x, s8 _ _ he4 (fun _ z => by cases z), PL4.ext s8⟩
    exact s8 _ _ (kE _ _ nb (s7 _ _ (s5 _ _ (s4 _ _ (kF _ _ nb (sB _ _ eb)))))) nt
end
end Me
set_option maxHeartbeats 8000000
namespace Me
/-! ### reading: how it ends -/
inductive End3 where
  | few (n : Nat)
  | bad (i : Nat)
  | fin (u : Nat)
def endR (wd : Option Nat) : Nat → Nat → Nat → List Nat → End3
  | x, y, _, [] => .few (owedN wd x y)
  | x, y, i, c :: r => match feedN wd x y (c == 49) with
    | none => .bad i
    | some .whole => .fin (i + 1)
    | some (.run x' y') => endR wd x' y' (i + 1) r
inductive Res where
  | few (n : Nat)
  | bad (i : Nat)
  | left (u : Nat)
  | read (n : Nat)
/-- the integer that the bits say, from the low one on -/
def intN (m : Nat) (wd : Option Nat) (l : List Nat) : Nat := match wd with
  | some W => Bn.binNum (l.take W)
  | none => if Bn.binNum (l.take m.log2) < shortN m then Bn.binNum (l.take m.log2) else 2 * Bn.binNum (l.take m.log2) + Bn.binNum ((l.drop m.log2).take 1) - shortN m
def outR (m : Nat) (wd : Option Nat) (l : List Nat) : Res := match endR wd (st0 m wd).1 (st0 m wd).2 0 l with
  | .few n => .few n
  | .bad i => .bad i
  | .fin u => if u < l.length then .left u else .read (intN m wd l)
def allB (l : List Nat) : Prop := ∀ c ∈ l, Bn.IsB c
theorem bin_snoc {p : List Nat} {c : Nat} (h : Bn.IsB c) : Bn.binNum (p ++ [c]) = 2 * Bn.binNum p + (if (c == 49) = true then 1 else 0) := by
  rw [binNum_app]
  unfold Bn.bv
  rcases h with rfl | rfl <;> simp <;> omega
/-! ### tight -/
def tightEnd (m : Nat) (t : List Nat) : End3 :=
  if t.length < m.log2 then .few ((if Bn.binNum t * 2 ^ (m.log2 - t.length) < shortN m then m.log2 else m.log2 + 1) - t.length)
  else if Bn.binNum (t.take m.log2) < shortN m then .fin m.log2
  else if t.length = m.log2 then .few 1 else .fin (m.log2 + 1)
theorem tight_step {s v h y : Nat} (hy : y = min (s - v * (2 * h)) (2 * h)) (c : Bool) : (if c = true then y - h else min y h) = min (s - (2 * v + (if c = true then 1 else 0)) * h) h := by
  have e1 : v * (2 * h) = 2 * (v * h) := by rw [← Nat.mul_assoc, Nat.mul_comm v 2, Nat.mul_assoc]
  have e2 : (2 * v + 1) * h = 2 * (v * h) + h := by rw [Nat.add_mul, Nat.mul_assoc, Nat.one_mul]
  have e3 : (2 * v + 0) * h = 2 * (v * h) := by rw [Nat.add_zero, Nat.mul_assoc]
  cases c with
  | true => rw [if_pos rfl, if_pos rfl, e2, hy, e1]; omega
  | false => rw [if_neg Bool.false_ne_true, if_neg Bool.false_ne_true, e3, hy, e1]; omega
theorem tight_run (m : Nat) : ∀ (l p : List Nat), allB l → p.length < m.log2 →
    endR none (m.log2 - p.length) (min (shortN m - Bn.binNum p * 2 ^ (m.log2 - p.length)) (2 ^ (m.log2 - p.length))) p.length l = tightEnd m (p ++ l)
  | [], p, _, hp => by
    have hpow : 0 < 2 ^ (m.log2 - p.length) := Nat.two_pow_pos _
    rw [List.append_nil]
    unfold endR tightEnd owedN
    rw [if_pos hp]
    congr 1
    dsimp only
    by_cases q : Bn.binNum p * 2 ^ (m.log2 - p.length) < shortN m
    · rw [if_pos q, if_pos (by omega)]
    · rw [if_neg q, if_neg (by omega)]; omega
  | c :: r, p, hl, hp => by
    have hc := hl c List.mem_cons_self
    have hr : allB r := fun d hd => hl d (List.mem_cons_of_mem _ hd)
    obtain ⟨x, hx⟩ : ∃ x, m.log2 - p.length = x + 1 := ⟨m.log2 - p.length - 1, by omega⟩
    have e0 : p ++ c :: r = (p ++ [c]) ++ r := by simp
    have st := tight_step (s := shortN m) (v := Bn.binNum p) (h := 2 ^ x) (y := min (shortN m - Bn.binNum p * 2 ^ (x + 1)) (2 ^ (x + 1))) (by rw [Nat.pow_succ, Nat.mul_comm (2 ^ x) 2]) (c == 49)
    rw [← bin_snoc (p := p) hc] at st
    rw [hx]
    unfold endR
    dsimp only [feedN]
    unfold feedT
    rw [if_neg (by omega), show x + 1 - 1 = x by omega, st]
    by_cases x0 : x = 0
    · subst x0
      have hlen : (p ++ [c]).length = m.log2 := by rw [List.length_append]; simp; omega
      have htake : ((p ++ [c]) ++ r).take m.log2 = p ++ [c] := List.take_left' hlen
      have nl : ¬ ((p ++ [c]) ++ r).length < m.log2 := by rw [List.length_append, hlen]; omega
      unfold tightEnd
      rw [e0, htake, if_neg nl]
      rw [Nat.pow_zero, Nat.mul_one]
      by_cases q : Bn.binNum (p ++ [c]) < shortN m
      · rw [if_pos ⟨rfl, by omega⟩, if_pos q]
        dsimp only
        congr 1
        simp at hlen; omega
      · rw [if_neg (show ¬ (0 + 1 = 1 ∧ 0 < min (shortN m - Bn.binNum (p ++ [c])) 1) by omega), if_neg q]
        dsimp only
        have hm : min (shortN m - Bn.binNum (p ++ [c])) 1 = 0 := by omega
        rw [hm]
        cases r with
        | nil => rw [List.append_nil, if_pos hlen]; rfl
        | cons d r =>
          rw [if_neg (by rw [List.length_append, hlen]; simp)]
          show End3.fin _ = _
          congr 1
          simp at hlen; omega
    · rw [if_neg (fun q => x0 (by omega))]
      dsimp only
      have ih := tight_run m r (p ++ [c]) hr (by rw [List.length_append]; simp; omega)
      have hlen : (p ++ [c]).length = p.length + 1 := by simp
      rw [hlen, show m.log2 - (p.length + 1) = x by omega] at ih
      rw [e0]
      exact ih
theorem short_facts {m : Nat} (h1 : 2 ^ m.log2 ≤ m) (h2 : m < 2 ^ (m.log2 + 1)) : 1 ≤ shortN m ∧ shortN m ≤ 2 ^ m.log2 := by
  unfold shortN
  rw [Nat.pow_succ] at *
  omega
theorem tight_end {m : Nat} (h1 : 2 ^ m.log2 ≤ m) (h2 : m < 2 ^ (m.log2 + 1)) (h3 : 1 ≤ m.log2) {l : List Nat} (hl : allB l) : endR none (st0 m none).1 (st0 m none).2 0 l = tightEnd m l := by
  have f := short_facts h1 h2
  have h := tight_run m l [] hl h3
  have e : min (shortN m - Bn.binNum [] * 2 ^ (m.log2 - 0)) (2 ^ (m.log2 - 0)) = shortN m := by
    show min (shortN m - 0 * _) _ = _
    rw [Nat.zero_mul, Nat.sub_zero, Nat.sub_zero]
    omega
  have h : endR none (m.log2 - 0) (min (shortN m - Bn.binNum [] * 2 ^ (m.log2 - 0)) (2 ^ (m.log2 - 0))) 0 l = tightEnd m l := h
  rw [e, Nat.sub_zero] at h
  exact h
/-! ### wide -/
def badP (m W : Nat) (t : List Nat) (i : Nat) : Prop := m ≤ Bn.binNum (t.take (i + 1)) * 2 ^ (W - i - 1)
theorem wide_step {m v h y : Nat} (hm : 1 ≤ m) (hh : 1 ≤ h) (hv : v * (2 * h) ≤ m - 1) (hy : y = min (m - 1 - v * (2 * h)) (2 * h - 1)) (c : Bool) :
    ((c = true ∧ y < h) ↔ m ≤ (2 * v + (if c = true then 1 else 0)) * h) ∧ (¬ (c = true ∧ y < h) → (2 * v + (if c = true then 1 else 0)) * h ≤ m - 1 ∧ (if c = true then y - h else min y (h - 1)) = min (m - 1 - (2 * v + (if c = true then 1 else 0)) * h) (h - 1)) := by
  have e1 : v * (2 * h) = 2 * (v * h) := by rw [← Nat.mul_assoc, Nat.mul_comm v 2, Nat.mul_assoc]
  have e2 : (2 * v + 1) * h = 2 * (v * h) + h := by rw [Nat.add_mul, Nat.mul_assoc, Nat.one_mul]
  have e3 : (2 * v + 0) * h = 2 * (v * h) := by rw [Nat.add_zero, Nat.mul_assoc]
  rw [e1] at hv hy
  cases c with
  | true =>
    simp only [if_pos, true_and]
    rw [e2]
    constructor
    · omega
    · intro q
      omega
  | false =>
    simp only [Bool.false_eq_true, false_and, if_false, not_false_eq_true, forall_const]
    rw [e3]
    constructor
    · constructor
      · exact False.elim
      · intro q; omega
    · omega
theorem wide_run (m W : Nat) (hm : 1 ≤ m) : ∀ (l p : List Nat), allB l → p.length < W → Bn.binNum p * 2 ^ (W - p.length) ≤ m - 1 →
    (∃ i, p.length ≤ i ∧ i < (p ++ l).length ∧ i < W ∧ badP m W (p ++ l) i ∧ (∀ j, p.length ≤ j → j < i → ¬ badP m W (p ++ l) j) ∧
      endR (some W) (W - p.length) (min (m - 1 - Bn.binNum p * 2 ^ (W - p.length)) (2 ^ (W - p.length) - 1)) p.length l = .bad i) ∨
    ((∀ j, p.length ≤ j → j < (p ++ l).length → j < W → ¬ badP m W (p ++ l) j) ∧
      endR (some W) (W - p.length) (min (m - 1 - Bn.binNum p * 2 ^ (W - p.length)) (2 ^ (W - p.length) - 1)) p.length l = if (p ++ l).length < W then .few (W - (p ++ l).length) else .fin W)
  | [], p, _, hp, _ => by
    refine .inr ⟨fun j h1 h2 _ => ?_, ?_⟩
    · rw [List.append_nil] at h2; omega
    · rw [List.append_nil, if_pos hp]; rfl
  | c :: r, p, hl, hp, hv => by
    have hc := hl c List.mem_cons_self
    have hr : allB r := fun d hd => hl d (List.mem_cons_of_mem _ hd)
    obtain ⟨x, hx⟩ : ∃ x, W - p.length = x + 1 := ⟨W - p.length - 1, by omega⟩
    have e0 : p ++ c :: r = (p ++ [c]) ++ r := by simp
    have hlen : (p ++ [c]).length = p.length + 1 := by simp
    have hpow : (2 : Nat) ^ (x + 1) = 2 * 2 ^ x := by rw [Nat.pow_succ, Nat.mul_comm]
    have hh : 1 ≤ 2 ^ x := Nat.one_le_two_pow
    rw [hx, hpow] at hv ⊢
    obtain ⟨sA, sB⟩ := wide_step (y := min (m - 1 - Bn.binNum p * (2 * 2 ^ x)) (2 * 2 ^ x - 1)) hm hh hv rfl (c == 49)
    rw [← bin_snoc (p := p) hc] at sA sB
    have htake : (p ++ c :: r).take (p.length + 1) = p ++ [c] := by rw [e0]; exact List.take_left' hlen
    have ebad : badP m W (p ++ c :: r) p.length ↔ m ≤ Bn.binNum (p ++ [c]) * 2 ^ x := by
      unfold badP
      rw [htake, show W - p.length - 1 = x by omega]
    unfold endR
    dsimp only [feedN]
    unfold feedW
    rw [show x + 1 - 1 = x by omega]
    by_cases q : (c == 49) = true ∧ min (m - 1 - Bn.binNum p * (2 * 2 ^ x)) (2 * 2 ^ x - 1) < 2 ^ x
    · rw [if_pos q]
      refine .inl ⟨p.length, Nat.le_refl _, by simp, by omega, ebad.mpr (sA.mp q), fun j h1 h2 => by omega, rfl⟩
    · rw [if_neg q]
      obtain ⟨v2, ey⟩ := sB q
      have nb : ¬ badP m W (p ++ c :: r) p.length := fun z => q (sA.mpr (ebad.mp z))
      by_cases x0 : x = 0
      · subst x0
        rw [if_pos rfl]
        refine .inr ⟨fun j h1 h2 h3 => ?_, ?_⟩
        · have : j = p.length := by omega
          rw [this]; exact nb
        · dsimp only
          rw [if_neg (by rw [List.length_append]; simp; omega)]
          congr 1; omega
      · rw [if_neg (show ¬ x + 1 = 1 by omega)]
        dsimp only
        rw [ey]
        have hl2 : (p ++ [c]).length < W := by rw [hlen]; omega
        have ex : W - (p.length + 1) = x := by omega
        have ih := wide_run m W hm r (p ++ [c]) hr hl2 (by rw [hlen, show W - (p.length + 1) = x by omega]; exact v2)
        rw [hlen, ex, ← e0] at ih
        have down : ∀ j, p.length ≤ j → ¬ (p.length + 1 ≤ j) → ¬ badP m W (p ++ c :: r) j := fun j h1 h2 => by
          have : j = p.length := by omega
          rw [this]; exact nb
        rcases ih with ⟨i, i1, i2, i3, i4, i5, i6⟩ | ⟨i1, i2⟩
        · refine .inl ⟨i, by omega, i2, i3, i4, fun j h1 h2 => ?_, i6⟩
          by_cases z : p.length + 1 ≤ j
          · exact i5 j z h2
          · exact down j h1 z
        · refine .inr ⟨fun j h1 h2 h3 => ?_, i2⟩
          by_cases z : p.length + 1 ≤ j
          · exact i1 j z h2 h3
          · exact down j h1 z
theorem wide_end {m W : Nat} (hm : 2 ≤ m) (hW : 1 ≤ W) (hmW : m ≤ 2 ^ W) {l : List Nat} (hl : allB l) :
    (∃ i, i < l.length ∧ i < W ∧ badP m W l i ∧ (∀ j, j < i → ¬ badP m W l j) ∧ endR (some W) (st0 m (some W)).1 (st0 m (some W)).2 0 l = .bad i) ∨
    ((∀ j, j < l.length → j < W → ¬ badP m W l j) ∧ endR (some W) (st0 m (some W)).1 (st0 m (some W)).2 0 l = if l.length < W then .few (W - l.length) else .fin W) := by
  have h := wide_run m W (by omega) l [] hl hW (by show 0 * _ ≤ _; rw [Nat.zero_mul]; omega)
  have e : min (m - 1 - Bn.binNum [] * 2 ^ (W - ([] : List Nat).length)) (2 ^ (W - ([] : List Nat).length) - 1) = m - 1 := by
    show min (m - 1 - 0 * _) (2 ^ (W - 0) - 1) = _
    rw [Nat.zero_mul, Nat.sub_zero, Nat.sub_zero]
    omega
  rw [e] at h
  rcases h with ⟨i, _, i2, i3, i4, i5, i6⟩ | ⟨i1, i2⟩
  · exact .inl ⟨i, i2, i3, i4, fun j => i5 j (Nat.zero_le _), i6⟩
  · exact .inr ⟨fun j => i1 j (Nat.zero_le _), i2⟩
/-! ### what is due -/
/-- as the law has it -/
def dueT (m : Nat) (l : List Nat) : Res :=
  if l.length < m.log2 then .few ((if shortN m ≤ Bn.binNum l * 2 ^ (m.log2 - l.length) then m.log2 + 1 else m.log2) - l.length)
  else if shortN m ≤ Bn.binNum (l.take m.log2) then
    if l.length = m.log2 then .few 1 else if m.log2 + 1 < l.length then .left (m.log2 + 1) else .read (Bn.binNum (l.take (m.log2 + 1)) - shortN m)
  else if m.log2 < l.length then .left m.log2 else .read (Bn.binNum (l.take m.log2))
def dueW (W : Nat) (l : List Nat) : Res :=
  if l.length < W then .few (W - l.length) else if W < l.length then .left W else .read (Bn.binNum (l.take W))
theorem take_one {l : List Nat} {k : Nat} (h : k < l.length) : ∃ c, (l.drop k).take 1 = [c] ∧ l.take (k + 1) = l.take k ++ [c] := by
  refine ⟨l[k], ?_, (List.take_append_getElem h).symm⟩
  rw [List.drop_eq_getElem_cons h]
  rfl
theorem bin_take {l : List Nat} {k : Nat} (h : k < l.length) : Bn.binNum (l.take (k + 1)) = 2 * Bn.binNum (l.take k) + Bn.binNum ((l.drop k).take 1) := by
  obtain ⟨c, e1, e2⟩ := take_one h
  rw [e1, e2, binNum_app]
  show _ = _ + (0 * 2 + Bn.bv c)
  omega
theorem out_tight {m : Nat} (h1 : 2 ^ m.log2 ≤ m) (h2 : m < 2 ^ (m.log2 + 1)) (h3 : 1 ≤ m.log2) {l : List Nat} (hl : allB l) : outR m none l = dueT m l := by
  unfold outR
  rw [tight_end h1 h2 h3 hl]
  unfold tightEnd dueT
  by_cases q : l.length < m.log2
  · rw [if_pos q, if_pos q]
    dsimp only
    congr 2
    by_cases z : shortN m ≤ Bn.binNum l * 2 ^ (m.log2 - l.length)
    · rw [if_pos z, if_neg (by omega)]
    · rw [if_neg z, if_pos (by omega)]
  · rw [if_neg q, if_neg q]
    by_cases z : shortN m ≤ Bn.binNum (l.take m.log2)
    · rw [if_neg (by omega), if_pos z]
      by_cases e : l.length = m.log2
      · rw [if_pos e, if_pos e]
      · rw [if_neg e, if_neg e]
        dsimp only
        by_cases f : m.log2 + 1 < l.length
        · rw [if_pos f, if_pos f]
        · rw [if_neg f, if_neg f]
          unfold intN
          dsimp only
          rw [if_neg (show ¬ Bn.binNum (l.take m.log2) < shortN m by omega), bin_take (k := m.log2) (l := l) (by omega)]
    · rw [if_pos (by omega), if_neg z]
      dsimp only
      by_cases f : m.log2 < l.length
      · rw [if_pos f, if_pos f]
      · rw [if_neg f, if_neg f]
        unfold intN
        dsimp only
        rw [if_pos (by omega)]
theorem out_wide {m W : Nat} (hm : 2 ≤ m) (hW : 1 ≤ W) (hmW : m ≤ 2 ^ W) {l : List Nat} (hl : allB l) :
    (∃ i, i < l.length ∧ i < W ∧ badP m W l i ∧ (∀ j, j < i → ¬ badP m W l j) ∧ outR m (some W) l = .bad i) ∨
    ((∀ j, j < l.length → j < W → ¬ badP m W l j) ∧ outR m (some W) l = dueW W l) := by
  rcases wide_end hm hW hmW hl with ⟨i, i1, i2, i3, i4, i5⟩ | ⟨i1, i2⟩
  · refine .inl ⟨i, i1, i2, i3, i4, ?_⟩
    unfold outR
    rw [i5]
  · refine .inr ⟨i1, ?_⟩
    unfold outR dueW
    rw [i2]
    by_cases q : l.length < W
    · rw [if_pos q, if_pos q]
    · rw [if_neg q, if_neg q]
      rfl
/-! ### a code is read back -/
def codeL (m : Nat) (wd : Option Nat) (n : Nat) : List Nat := match wd with
  | some W => bitsL n W
  | none => if n < shortN m then bitsL n m.log2 else bitsL (n + shortN m) (m.log2 + 1)
theorem bitsL_B : ∀ (n k : Nat), allB (bitsL n k)
  | _, 0, _, h => by cases h
  | n, k + 1, c, h => by
    rw [bitsL] at h
    rcases List.mem_append.mp h with h | h
    · exact bitsL_B _ _ c h
    · rw [List.mem_singleton.mp h]
      unfold Bn.IsB
      omega
theorem bitsL_take : ∀ (j k n : Nat), j ≤ k → (bitsL n k).take j = bitsL (n / 2 ^ (k - j)) j
  | j, 0, n, h => by
    have : j = 0 := by omega
    subst this
    rfl
  | j, k + 1, n, h => by
    by_cases e : j = k + 1
    · subst e
      rw [List.take_of_length_le (by rw [bitsL_len]; exact Nat.le_refl _), Nat.sub_self, Nat.pow_zero, Nat.div_one]
    · rw [bitsL, List.take_append_of_le_length (by rw [bitsL_len]; omega), bitsL_take j k (n / 2) (by omega), Nat.div_div_eq_div_mul, ← Nat.pow_succ', show (k - j).succ = k + 1 - j by omega]
theorem out_code {m n : Nat} {wd : Option Nat} (h1 : 2 ^ m.log2 ≤ m) (h2 : m < 2 ^ (m.log2 + 1)) (h3 : 1 ≤ m.log2) (hm : 2 ≤ m) (hw : ∀ W, wd = some W → 1 ≤ W ∧ m ≤ 2 ^ W) (hn : n < m) : outR m wd (codeL m wd n) = .read n := by
  have f := short_facts h1 h2
  have p2 : (2 : Nat) ^ (m.log2 + 1) = 2 * 2 ^ m.log2 := by rw [Nat.pow_succ, Nat.mul_comm]
  cases wd with
  | none =>
    have hl : allB (codeL m none n) := by
      unfold codeL
      dsimp only
      split <;> exact bitsL_B _ _
    rw [out_tight h1 h2 h3 hl]
    unfold codeL dueT
    dsimp only
    have es : shortN m + m = 2 ^ (m.log2 + 1) := by unfold shortN; omega
    by_cases q : n < shortN m
    · rw [if_pos q, bitsL_len, if_neg (by omega), List.take_of_length_le (by rw [bitsL_len]; exact Nat.le_refl _), binNum_bits _ _ (by omega), if_neg (by omega), if_neg (by omega)]
    · rw [if_neg q, bitsL_len, if_neg (by omega), bitsL_take _ _ _ (by omega), show m.log2 + 1 - m.log2 = 1 by omega, binNum_bits _ _ (by rw [p2] at es; omega), if_pos (by omega), if_neg (by omega), if_neg (by omega)]
      rw [List.take_of_length_le (by rw [bitsL_len]; exact Nat.le_refl _), binNum_bits _ _ (by omega)]
      congr 1; omega
  | some W =>
    obtain ⟨w1, w2⟩ := hw W rfl
    have nb : ∀ j, j < W → ¬ badP m W (bitsL n W) j := fun j hj z => by
      unfold badP at z
      rw [bitsL_take _ _ _ (by omega), binNum_bits _ _ (by
        rw [Nat.div_lt_iff_lt_mul (Nat.two_pow_pos _), ← Nat.pow_add, show j + 1 + (W - (j + 1)) = W by omega]
        omega), show W - (j + 1) = W - j - 1 by omega] at z
      have := Nat.div_mul_le_self n (2 ^ (W - j - 1))
      omega
    rcases out_wide hm w1 w2 (bitsL_B n W) with ⟨i, i1, i2, i3, _⟩ | ⟨_, e⟩
    · exact absurd i3 (nb i i2)
    · show outR m (some W) (bitsL n W) = _
      rw [e]
      unfold dueW
      rw [bitsL_len, if_neg (by omega), if_neg (by omega), List.take_of_length_le (by rw [bitsL_len]; exact Nat.le_refl _), binNum_bits _ _ (by omega)]
/-! ### the codes fill the room -/
def preL (x y : List Nat) : Bool := x.isPrefixOf y
def fillsB (m : Nat) : Bool :=
  (List.range m).all (fun k => (List.range k).all fun j => !(preL (codeL m none j) (codeL m none k) || preL (codeL m none k) (codeL m none j))) &&
  decide (((List.range m).map fun k => 2 ^ (m.log2 + 1 - (codeL m none k).length)).sum = 2 ^ (m.log2 + 1))
theorem fills : ∀ m, m < 41 → 2 ≤ m → fillsB m = true := by decide +kernel
end Me
set_option maxHeartbeats 8000000
namespace Me
open PySem L2


theorem passL' {X : Cx} : Passes (L2.CX X.prog X.w) X E0 := passL
section
variable {P : Program} {w : World} {K : PySem.W.Frag} {mg : Str → Option Value} {base : Heap} {a : Ad}
theorem ok_ini0 (T : Txt P K mg a) : FnOk P w K mg base CX0 1 (a.I 0).f (a.I 0).fd (["self", "path"] : List Str) (spI1 (a.C 0) "path") :=
  ini1 (T.er 0 (by decide)) rfl (by decide) ⟨rfl, rfl, rfl, by decide +kernel, rfl, by decide +kernel, by decide +kernel⟩ fun _ _ _ _ _ _ => pss_one (ps_ost (pv 0) (pv 1))
theorem ok_ini1 (T : Txt P K mg a) : FnOk P w K mg base CX0 1 (a.I 1).f (a.I 1).fd (["self", "at"] : List Str) (spI1 (a.C 1) "at") :=
  ini1 (T.er 1 (by decide)) rfl (by decide) ⟨rfl, rfl, rfl, by decide +kernel, rfl, by decide +kernel, by decide +kernel⟩ fun _ _ _ _ _ _ => pss_one (ps_ost (pv 0) (pv 1))
theorem ok_ini2 (T : Txt P K mg a) : FnOk P w K mg base CX0 1 (a.I 2).f (a.I 2).fd (["self", "due"] : List Str) (spI1 (a.C 2) "due") :=
  ini1 (T.er 2 (by decide)) rfl (by decide) ⟨rfl, rfl, rfl, by decide +kernel, rfl, by decide +kernel, by decide +kernel⟩ fun _ _ _ _ _ _ => pss_one (ps_ost (pv 0) (pv 1))
theorem ok_ini3 (T : Txt P K mg a) : FnOk P w K mg base CX0 1 (a.I 3).f (a.I 3).fd (["self", "at"] : List Str) (spI1 (a.C 3) "at") :=
  ini1 (T.er 3 (by decide)) rfl (by decide) ⟨rfl, rfl, rfl, by decide +kernel, rfl, by decide +kernel, by decide +kernel⟩ fun _ _ _ _ _ _ => pss_one (ps_ost (pv 0) (pv 1))
def spKN (a : Ad) : Sp := fun vs H Q _ => ∃ (e : Addr) (z : Str) (low : Int) (m : Nat) (wd : Option Nat), vs = [.ref e, .non] ∧ EdAt a H e z low m wd ∧ Q (.str z) H
theorem ok_kind_name (T : Txt P K mg a) : FnOk P w K mg base CX0 1 a.kind_name.f a.kind_name.fd ["edition", "kind"] (spKN a) := by
  have sc : FnScope ["edition", "kind"] ["edition", "kind"] (defScope (top 88)) := ⟨rfl, rfl, rfl, by decide +kernel, rfl, by decide +kernel, by decide +kernel⟩
  refine T.kind_name.ok sc (fun vs H Q E h => ?_) (fun cdv A outer s H vs Q E hr h => ?_)
  · obtain ⟨e, z, low, m, wd, rfl, _⟩ := h; rfl
  · obtain ⟨e, z, low, m, wd, rfl, ⟨dx, d, p, n, x, he, _⟩, k⟩ := h
    refine ⟨_, (pss_cons (ps_if (pt_cmpR op_isN (pv 1) pe_non (nomark _))
      (pss_one (ps_ret (pe_fld (pv 0) rfl)))
      pss_nil)
      pss_never), ?_⟩
    have cl := T.cl_Edition
    have no : ∀ f ∈ fields, NoAttr K a.c_Edition f := T.no_Edition
    walk_at "go"
    refine ⟨rfl, _, rfl, i_yes rfl ?_⟩
    walk_at "go"
    refine i_fld1 rfl he cl (no _ (by decide)) rfl ?_
    exact k
def drF (p l : Addr) : List (Str × V) := [("plan", .ref p), ("pieces", .ref l)]
def spDrI (a : Ad) : Sp := fun vs H Q _ => ∃ d dx p : Addr, vs = [.ref d, .ref p] ∧ H d = some (.ins a.c_Draft dx []) ∧ ∀ l H', Kept H d H' → H l = none → H' d = some (.ins a.c_Draft dx (drF p l)) → H' l = some (.lst []) → Q .non H'
theorem ok_draft_init (T : Txt P K mg a) : FnOk P w K mg base CX0 1 a.m_Draft_init.f a.m_Draft_init.fd ["self", "plan"] (spDrI a) := by
  have sc : FnScope ["self", "plan"] ["self", "plan"] (defScope (inClass (top 91) 0)) := ⟨rfl, rfl, rfl, by decide +kernel, rfl, by decide +kernel, by decide +kernel⟩
  refine ok0 T.m_Draft_init sc (fun vs H Q E h => ?_) (fun cdv A outer s H vs Q E hr h => ?_)
  · obtain ⟨d, dx, p, rfl, _⟩ := h; rfl
  · obtain ⟨d, dx, p, rfl, hd, k⟩ := h
    refine ⟨_, (pss_cons (ps_fld (pv 0) (pv 1) rfl)
      (pss_one (ps_fld (pv 0) (pe_lst pa_nil) rfl))), ?_⟩
    have cl := T.cl_Draft
    have no : ∀ f ∈ fields, NoAttr K a.c_Draft f := T.no_Draft
    walk_at "go"
    refine i_sfld ?_
    walk_at "go"
    refine ⟨d, _, dx, [], rfl, hd, cl, no _ (by decide), by decide, ?_⟩
    dsimp only
    refine i_sfld ?_
    walk_at "go"
    rename_i l nl
    have dl : d ≠ l := ne_of_none upd_same nl
    refine ⟨d, _, dx, _, rfl, upd_get dl upd_same, cl, no _ (by decide), (by show 1 < 1000; decide), ?_⟩
    dsimp only
    refine k l _ (Kept.rfl'.upd.new nl).upd ?_ upd_same (upd_get dl.symm upd_same)
    rw [upd_ne dl.symm] at nl
    exact nl
def spAsBits (a : Ad) : Sp := fun vs H Q _ => ∃ (d dx p l : Addr) (x : Str), vs = [.ref d] ∧ H d = some (.ins a.c_Draft dx (drF p l)) ∧ H l = some (.lst [.str x]) ∧ x.length ≤ 100 ∧ Q (.str x) H
theorem ok_as_bits (T : Txt P K mg a) : FnOk P w K mg base CX0 1 a.m_Draft_as_bits.f a.m_Draft_as_bits.fd ["self"] (spAsBits a) := by
  have sc : FnScope ["self"] ["self"] (defScope (inClass (top 91) 1)) := ⟨rfl, rfl, rfl, by decide +kernel, rfl, by decide +kernel, by decide +kernel⟩
  refine ok0 T.m_Draft_as_bits sc (fun vs H Q E h => ?_) (fun cdv A outer s H vs Q E hr h => ?_)
  · obtain ⟨d, dx, p, l, x, rfl, _⟩ := h; rfl
  · obtain ⟨d, dx, p, l, x, rfl, hd, hl, hx, k⟩ := h
    refine ⟨_, (pss_one (ps_ret (pe_join pe_str (pe_fld (pv 0) rfl)))), ?_⟩
    have cl := T.cl_Draft
    have no : ∀ f ∈ fields, NoAttr K a.c_Draft f := T.no_Draft
    walk_at "go"
    refine i_m1 ?_
    walk_at "go"
    refine ⟨⟨_, rfl⟩, ?_⟩
    refine i_fld1 rfl hd cl (no _ (by decide)) rfl ?_
    refine ⟨_, l, [x], rfl, rfl, .inl (SqL.of hl), ?_, ?_⟩
    · have e0 : ("" : Str).length = 0 := rfl
      show x.length + 0 + 1 * ("" : Str).length ≤ _
      rw [e0]; omega
    · have e : Txt.join "" [x] = x := by
        first | rfl | simp [Txt.join] | skip
      rw [e]; exact k
def spCheck (a : Ad) : Sp := fun vs H Q E => ∃ (b : Bool) (v : V), vs = [.bl b, v] ∧ (b = true → Q .non H) ∧ (b = false → ∀ d, H d = none → E (.ref (a.C 0)) (some d) (upd H d (.xd [("path", v)])))
theorem ok_check (T : Txt P K mg a) : FnOk P w K mg base (L2.CX P w) 3 a.check.f a.check.fd ["is_right", "path"] (spCheck a) := by
  have sc : FnScope ["is_right", "path"] ["is_right", "path"] (defScope (top 92)) := ⟨rfl, rfl, rfl, by decide +kernel, rfl, by decide +kernel, by decide +kernel⟩
  refine T.check.okX sc (fun vs H Q E h => ?_) (fun cdv A outer s H vs Q E hr h => ?_)
  · obtain ⟨b, v, rfl, _⟩ := h; rfl
  · obtain ⟨b, v, rfl, k1, k2⟩ := h
    have tk : Takes (cxOf (L2.CX P w) P w K mg base ["is_right", "path"] "check" (defScope (top 92)) a.check.f cdv A outer s H E) (fun cls d _ H => E cls d H) := takes_of rfl rfl rfl rfl
    refine ⟨_, (pss_one (ps_if (pt_not (pt_val (pv 0)))
      (pss_one (ps_thr (T.er 0 (by decide)) rfl rfl rfl (ok_ini0 T) (hr.mono (by decide)) tk (pv 1) rfl))
      pss_nil)), ?_⟩
    walk_at "go"
    cases b with
    | true =>
      refine i_no rfl ?_
      walk_at "go"
      exact k1 rfl
    | false =>
      refine i_yes rfl ?_
      exact ⟨_, rfl, thr_ok fun d nd => k2 rfl d nd⟩
end
end Me
set_option maxHeartbeats 8000000
namespace Me
open PySem L2


/-- a thing's place among the m integers from low on -/
def nthV (low : Int) (m : Nat) : V → Option Nat
  | .int i => if low ≤ i ∧ i < low + m then some (i - low).toNat else none
  | _ => none
theorem nthV_some {low : Int} {m k : Nat} {v : V} (h : nthV low m v = some k) : v = .int (low + k) ∧ k < m := by
  cases v with
  | int i =>
    unfold nthV at h
    dsimp only at h
    split at h
    · rename_i q
      cases h
      refine ⟨?_, by omega⟩
      congr 1; omega
    · cases h
  | _ => cases h
theorem Kept.toN {H H' : Hp} {x : Addr} (k : Kept H x H') : Kept H x H' := k
section
variable {P : Program} {w : World} {K : PySem.W.Frag} {mg : Str → Option Value} {base : Heap} {a : Ad}
def spWrite (a : Ad) : Sp := fun vs H Q E => ∃ (d dx p l n : Addr) (v pth : V) (low : Int) (m : Nat) (wd : Option Nat), vs = [.ref d, .ref n, v, pth] ∧ H d = some (.ins a.c_Draft dx (drF p l)) ∧ H l = some (.lst []) ∧ NumOk a.c_Number H n low m wd ∧ Th H v ∧
  (∀ k, nthV low m v = some k → ∀ H', Kept H l H' → H' l = some (.lst [.str (codeS m wd k)]) → Q .non H') ∧ (nthV low m v = none → ∀ H' dd, Same H H' → H' dd = none → E (.ref (a.C 0)) (some dd) (upd H' dd (.xd [("path", pth)])))
theorem ok_write (T : Txt P K mg a) : FnOk P w K mg base (L2.CX P w) 4 a.m_Draft_write.f a.m_Draft_write.fd ["self", "kind", "thing", "path"] (spWrite a) := by
  have G_is_int : FnOk P w K mg base CX0 1 a.is_int.f a.is_int.fd ["thing"] spIsInt := ok_is_int T
  have G_number_bits := ok_number_bits (P := P) (w := w) (base := base) T
  have G_check := ok_check (P := P) (w := w) (base := base) T
  have sc : FnScope ["self", "kind", "thing", "path"] ["self", "kind", "thing", "path"] (defScope (inClass (top 91) 2)) := ⟨rfl, rfl, rfl, by decide +kernel, rfl, by decide +kernel, by decide +kernel⟩
  refine T.m_Draft_write.ok sc (fun vs H Q E h => ?_) (fun cdv A outer s H vs Q E hr h => ?_)
  · obtain ⟨d, dx, p, l, n, v, pth, low, m, wd, rfl, _⟩ := h; rfl
  · obtain ⟨d, dx, p, l, n, v, pth, low, m, wd, rfl, hd, hl, N, hv, k1, k2⟩ := h
    have tk : Takes (cxOf (L2.CX P w) P w K mg base ["self", "kind", "thing", "path"] "Draft.write" (defScope (inClass (top 91) 2)) a.m_Draft_write.f cdv A outer s H E) (fun cls d _ H => E cls d H) := takes_of rfl rfl rfl rfl
    refine ⟨_, (pss_one (ps_if (pt_val (pe_callB call_isi (by rfl) T.isinstance (by decide +kernel) (pa_cons (pv 1) (pa_cons (pe_glob (v := .ref a.c_Nothing) rfl T.Nothing rfl) pa_nil))))
      pss_never
      (pss_one (ps_if (pt_val (pe_callB call_isi (by rfl) T.isinstance (by decide +kernel) (pa_cons (pv 1) (pa_cons (pe_glob (v := .ref a.c_Number) rfl T.Number rfl) pa_nil))))
      (pss_cons (ps_expr (pe_call G_check (hr.mono (by first | decide | omega)) rfl T.check.mg T.check.kp T.check.b .nil (passes_call tk (fun _ _ _ _ h => h)) (pa_cons (pe_and (pe_call G_is_int (hr.mono (by first | decide | omega)) rfl T.is_int.mg T.is_int.kp T.is_int.b .nil pass0 (pa_cons (pv 2) pa_nil)) (pe_one (pe_chain op_le op_le (pe_fld (pv 1) rfl) (pv 2) (pe_fld (pv 1) rfl)))) (pa_cons (pv 3) pa_nil))))
      (pss_one (ps_expr (pe_bm PySem.F.plainAttrs_list PySem.F.slot_list_append PySem.F.type_list_append mt_append (pe_fld (pv 0) rfl) (pa_cons (pe_call G_number_bits (hr.mono (by first | decide | omega)) rfl T.number_bits.mg T.number_bits.kp T.number_bits.b .nil pass0 (pa_cons (pv 1) (pa_cons (pv 2) pa_nil))) pa_nil)))))
      pss_never)))), ?_⟩
    have cl := T.cl_Number
    have no : ∀ f ∈ fields, NoAttr K a.c_Number f := T.no_Number
    obtain ⟨ndx, e⟩ := N.at_
    walk_at "go"
    refine i_isiN (T.ty_Number _ _ _ _ e) T.kt_Number_Nothing ?_
    walk_at "go"
    refine i_isiN (T.ty_Number _ _ _ _ e) T.kt_Number_Number ?_
    walk_at "go"
    refine ⟨v, rfl, hv, ?_⟩
    cases hv with
    | int i =>
      refine ⟨true, rfl, i_yes rfl ?_⟩
      refine i_chain ?_
      refine i_fld1 rfl e cl (no _ (by decide)) rfl ?_
      walk_at "go"
      have nin : ¬ (low ≤ i ∧ i < low + m) → nthV low m (.int i) = none := fun q => if_neg q
      refine i_itd (fun h1 => ?_) (fun h1 => ?_)
      · refine i_fld1 rfl e cl (no _ (by decide)) rfl ?_
        walk_at "go"
        refine ⟨decide (i ≤ low + m - 1), pth, rfl, fun h2 => ?_, fun h2 dd nd => ?_⟩
        · have h2 := of_decide_eq_true h2
          have cD := T.cl_Draft
          have nD : ∀ f ∈ fields, NoAttr K a.c_Draft f := T.no_Draft
          dsimp only
          refine i_drop ?_
          refine i_fld1 rfl hd cD (nD _ (by decide)) rfl ?_
          refine ⟨.inl ⟨rfl, _, SqL.of hl⟩, ?_⟩
          walk_at "go"
          have h3 : low ≤ i ∧ i < low + m := ⟨h1, by omega⟩
          have hk : nthV low m (.int i) = some (i - low).toNat := if_pos h3
          refine ⟨n, low, m, (i - low).toNat, wd, by rw [show low + ((i - low).toNat : Int) = i by omega]; rfl, N, by omega, fun H1 s1 => ?_⟩
          walk_at "go"
          refine ⟨l, [], _, rfl, rfl, s1 _ _ hl, by decide, ?_⟩
          exact k1 _ hk _ (fun b o nb eb => by rw [upd_ne nb]; exact s1 _ _ eb) upd_same
        · have h2 := of_decide_eq_false h2
          exact k2 (nin (by omega)) H dd (fun _ _ q => q) nd
      · walk_at "go"
        refine ⟨false, pth, rfl, fun z => Bool.noConfusion z, fun _ dd nd => ?_⟩
        exact k2 (nin (by omega)) H dd (fun _ _ q => q) nd
    | _ =>
      refine ⟨false, rfl, i_no rfl ?_⟩
      walk_at "go"
      refine ⟨false, pth, rfl, fun z => Bool.noConfusion z, fun _ dd nd => ?_⟩
      exact k2 rfl H dd (fun _ _ q => q) nd
end
end Me
set_option maxHeartbeats 8000000
namespace Me
open PySem L2


theorem codeS_len {m k : Nat} {wd : Option Nat} (h : 2 ≤ m) (h2 : m ≤ 2 ^ 60) (hw : ∀ W, wd = some W → 1 ≤ W ∧ W ≤ 60 ∧ m ≤ 2 ^ W) : (codeS m wd k).length ≤ 61 := by
  obtain ⟨_, _, _, l⟩ := log2_facts h h2
  cases wd with
  | some W => show (bitS k W).length ≤ _; rw [bitS_len]; have := hw W rfl; omega
  | none =>
    unfold codeS
    dsimp only
    split <;> (rw [bitS_len]; omega)
theorem okXN {P : Program} {w : World} {K : PySem.W.Frag} {mg : Str → Option Value} {base : Heap} {x : Str} {st : Stmt} {ps ps' N : List Str} {d : DA} {k : Nat} {sp : Sp} (D : DfN K mg x st ps' d) (S : FnScope N ps (defScope st)) (len : ∀ vs H Q E, sp vs H Q E → vs.length = ps.length)
    (go : ∀ (cdv : Value) (A : Around) (outer : List Env) (s : Shared) (H : Hp) (vs : List V) (Q : VK) (E : XK), Room k (A.deeper (PyProof.Rows.envOfC x (defScope st) s.heap.objs.size d.f cdv)) → sp vs H Q E →
      ∃ t, PSs (cxOf (L2.CX P w) P w K mg base N x (defScope st) d.f cdv A outer s H E) (defBody st) t ∧ t { nx := fun _ H' => Q .non H', rt := Q } (start N vs) H) : FnOk P w K mg base (L2.CX P w) (k + 1) d.f d.fd ps sp := D.fn.ok S len go
section
variable {P : Program} {w : World} {K : PySem.W.Frag} {mg : Str → Option Value} {base : Heap} {a : Ad}
/-- what written and is_value hinge on -/
def spWritten (a : Ad) : Sp := fun vs H Q E => ∃ (e : Addr) (v : V) (z : Str) (low : Int) (m : Nat) (wd : Option Nat), vs = [.ref e, v, .non] ∧ EdAt a H e z low m wd ∧ Th H v ∧
  (∀ k, nthV low m v = some k → ∀ H', Same H H' → Q (.str (codeS m wd k)) H') ∧ (nthV low m v = none → ∀ H' t dd, Same H H' → H' t = some (.tup []) → H' dd = none → E (.ref (a.C 0)) (some dd) (upd H' dd (.xd [("path", .ref t)])))
theorem ok_written (T : Txt P K mg a) : FnOk P w K mg base (L2.CX P w) 5 a.written.f a.written.fd ["edition", "value", "kind"] (spWritten a) := by
  have G_kind_name := ok_kind_name (P := P) (w := w) (base := base) T
  have G_draft := ok_draft_init (P := P) (w := w) (base := base) T
  have G_write := ok_write (P := P) (w := w) (base := base) T
  have G_as_bits := ok_as_bits (P := P) (w := w) (base := base) T
  have sc : FnScope ["edition", "value", "kind", "name", "draft"] ["edition", "value", "kind"] (defScope (top 90)) := ⟨rfl, rfl, rfl, by decide +kernel, rfl, by decide +kernel, by decide +kernel⟩
  refine okXN T.written sc (fun vs H Q E h => ?_) (fun cdv A outer s H vs Q E hr h => ?_)
  · obtain ⟨e, v, z, low, m, wd, rfl, _⟩ := h; rfl
  · obtain ⟨e, v, z, low, m, wd, rfl, ED, hv, k1, k2⟩ := h
    have tk : Takes (cxOf (L2.CX P w) P w K mg base ["edition", "value", "kind", "name", "draft"] "written" (defScope (top 90)) a.written.f cdv A outer s H E) (fun cls d _ H => E cls d H) := takes_of rfl rfl rfl rfl
    have clE := T.cl_Edition
    have noE : ∀ f ∈ fields, NoAttr K a.c_Edition f := T.no_Edition
    have clP := T.cl_Plan
    have noP : ∀ f ∈ fields, NoAttr K a.c_Plan f := T.no_Plan
    refine ⟨_, (pss_cons (ps_set (i := 3) sc.nd rfl (by first | exact Or.inl rfl | exact Or.inr rfl) (pe_call G_kind_name (hr.mono (by first | decide | omega)) rfl T.kind_name.mg T.kind_name.kp T.kind_name.b .nil pass0 (pa_cons (pv 0) (pa_cons (pv 2) pa_nil))))
      (pss_cons (ps_set (i := 4) sc.nd rfl (by first | exact Or.inl rfl | exact Or.inr rfl) (pe_make T.mk_Draft G_draft (hr.mono (by decide)) rfl T.Draft T.b_m_Draft_init .nil pass0 (pa_cons (pe_fld (pv 0) rfl) pa_nil)))
      (pss_cons (ps_expr (pe_meth (pv 4) T.cl_Draft T.me_m_Draft_write G_write (hr.mono (by first | decide | omega)) T.b_m_Draft_write .nil (passes_call tk (fun _ _ _ _ h => h)) (pa_cons (pe_dget (hu_of hr) (pe_fld (pe_fld (pv 0) rfl) rfl) (pv 3) (fun _ _ => rfl)) (pa_cons (pv 1) (pa_cons (pe_tup pa_nil) pa_nil)))))
      (pss_one (ps_ret (pe_meth0 (pv 4) T.cl_Draft T.me_m_Draft_as_bits G_as_bits (hr.mono (by first | decide | omega)) T.b_m_Draft_as_bits .nil pass0)))))), ?_⟩
    walk_at "go"
    refine ⟨e, z, low, m, wd, rfl, ED, ?_⟩
    obtain ⟨dx, d, p, n, x, he, PL⟩ := ED
    obtain ⟨⟨pdx, c, st, ct, nd, sh, hp, hn⟩, hd, N, X⟩ := PL
    walk_at "go"
    refine i_make ?_
    walk_at "go"
    refine i_fld1 rfl he clE (noE _ (by decide)) rfl ?_
    walk_at "go"
    intro r rdx nr nrdx ne
    have s0 : Same H (upd (upd H rdx (.own r)) r (.ins a.c_Draft rdx [])) := fun b o eb => by
      rw [upd_ne (ne_of_none eb nr), upd_ne (ne_of_none eb nrdx)]; exact eb
    refine ⟨r, rdx, p, rfl, upd_same, fun l H1 kk nl hr1 hl1 => ⟨rfl, ?_⟩⟩
    have s1 : Same H H1 := fun b o eb => kk b o (ne_of_none eb nr) (s0 b o eb)
    walk_at "go"
    refine i_meth ?_
    walk_at "go"
    refine ⟨r, rdx, _, rfl, hr1, rfl, ?_⟩
    walk_at "go"
    refine ⟨_, rfl, e, _, dx, _, .ref p, rfl, s1 _ _ he, clE, noE _ (by decide), rfl, ?_⟩
    refine ⟨p, _, pdx, _, .ref d, rfl, s1 _ _ hp, clP, noP _ (by decide), rfl, ?_⟩
    refine ⟨_, rfl, d, .ref n, rfl, .inl ⟨_, .inr z, .inl (s1 _ _ hd), rfl, val_one.symm⟩, ?_⟩
    walk_at "go"
    rename_i t nt
    have s2 : Same H (upd H1 t (.tup [])) := fun b o eb => same_upd nt _ _ (s1 _ _ eb)
    have s12 := same_upd (o := .tup []) nt
    refine ⟨r, rdx, p, l, n, v, .ref t, low, m, wd, rfl, s12 _ _ hr1, s12 _ _ hl1, N.same s2, hv.same s2, fun k hk H2 k3 hl2 => ?_, fun hk H2 dd s3 nd => ?_⟩
    · have rl : r ≠ l := ne_of (s12 _ _ hr1) (s12 _ _ hl1) (by intro z; cases z)
      have nl2 : upd H1 t (HO.tup []) l = some (HO.lst []) := s12 _ _ hl1
      have s3 : Same H H2 := fun b o eb => k3 b o (ne_of_none (s0 _ _ eb) nl) (s2 b o eb)
      walk_at "go"
      refine i_meth ?_
      walk_at "go"
      refine ⟨r, rdx, _, rfl, k3 _ _ rl (s12 _ _ hr1), rfl, ?_⟩
      refine i_nil ⟨r, rdx, p, l, _, rfl, k3 _ _ rl (s12 _ _ hr1), hl2, ?_, ?_⟩
      · have := codeS_len (k := k) N.lo N.hi N.wd
        omega
      · exact k1 k hk _ s3
    · exact k2 hk H2 t dd (fun b o eb => s3 _ _ (s2 _ _ eb)) (s3 _ _ upd_same) nd
end
end Me
set_option maxHeartbeats 8000000
namespace Me
open PySem L2


section
variable {P : Program} {w : World} {K : PySem.W.Frag} {mg : Str → Option Value} {base : Heap} {a : Ad}
theorem ok0N {x : Str} {st : Stmt} {ps ps' N : List Str} {d : DA} {k : Nat} {sp : Sp} (D : DfN K mg x st ps' d) (S : FnScope N ps (defScope st)) (len : ∀ vs H Q E, sp vs H Q E → vs.length = ps.length)
    (go : ∀ (cdv : Value) (A : Around) (outer : List Env) (s : Shared) (H : Hp) (vs : List V) (Q : VK) (E : XK), Room k (A.deeper (PyProof.Rows.envOfC x (defScope st) s.heap.objs.size d.f cdv)) → sp vs H Q E →
      ∃ t, PSs (cxOf CX0 P w K mg base N x (defScope st) d.f cdv A outer s H E).nox (defBody st) t ∧ t { nx := fun _ H' => Q .non H', rt := Q } (start N vs) H) : FnOk P w K mg base CX0 (k + 1) d.f d.fd ps sp := ok0d D.fn S len go
def spIsVal (a : Ad) : Sp := fun vs H Q _ => ∃ (e : Addr) (v : V) (z : Str) (low : Int) (m : Nat) (wd : Option Nat), vs = [.ref e, v, .non] ∧ EdAt a H e z low m wd ∧ Th H v ∧ ∀ H', Same H H' → Q (.bl (nthV low m v).isSome) H'
theorem ok_is_value (T : Txt P K mg a) : FnOk P w K mg base CX0 6 a.is_value.f a.is_value.fd ["edition", "thing", "kind"] (spIsVal a) := by
  have G_written := ok_written (P := P) (w := w) (base := base) T
  have sc : FnScope ["edition", "thing", "kind"] ["edition", "thing", "kind"] (defScope (top 103)) := ⟨rfl, rfl, rfl, by decide +kernel, rfl, by decide +kernel, by decide +kernel⟩
  refine ok0N T.is_value sc (fun vs H Q E h => ?_) (fun cdv A outer s H vs Q E hr h => ?_)
  · obtain ⟨e, v, z, low, m, wd, rfl, _⟩ := h; rfl
  · obtain ⟨e, v, z, low, m, wd, rfl, ED, hv, k⟩ := h
    have hr5 : Room 5 _ := hr.mono (by decide)
    refine ⟨_, pss_cons (ps_try_many (tb := fun W => tDrop (tCallS (spWritten a) (WE W) (tCons (tVar 0) (tCons (tVar 1) (tCons (tVar 2) tNil))))) (l := [(.ref (a.C 0), fun _ _ _ => tRet (tC (.bl false)))]) (Wout := fun _ _ _ _ => False) rfl rfl takes0
      (fun W pn xe tk _ => pss_one (ps_expr (by exact pe_callS G_written hr5 rfl T.written.mg T.written.kp T.written.b (fun σ => passAt tk σ) (by exact pa_cons (pv 0) (pa_cons (pv 1) (pa_cons (pv 2) pa_nil))))))
      (HdsOk.cons ⟨rfl, by decide, Or.inl (T.er 0 (by decide)).gl⟩ (fun e oe cls d pn hz hf => pss_one (ps_ret pe_bl)) .nil)) (pss_one (ps_ret pe_bl)), ?_⟩
    walk_at "go"
    refine ⟨_, rfl, _, rfl, _, rfl, e, v, z, low, m, wd, rfl, ED, hv, fun j hj H' s1 => ?_, fun hj H' t dd s1 ht nd => ?_⟩
    · walk_at "go"
      have := k H' s1
      rw [hj] at this
      exact this
    · refine ⟨true, (T.er 0 (by decide)).ex 0 (by decide), fun _ x nx => ?_, fun z => Bool.noConfusion z⟩
      walk_at "go"
      have k := fun H' s => k H' s
      rw [hj] at k
      exact k _ (fun b o eb => same_upd nd _ _ (s1 b o eb))
/-- e.f of a caught error -/
def tsX (K : PySem.W.Frag) (C : Nat → Addr) (i : Nat) (t : Addr → Option Addr → TS) : Addr → Value → Option Addr → TS := fun a cls d D σ H => cls = .ref (C i) ∧ ∀ oe : Obj, Zc cls d oe → (∃ vs, oe.data = .fields vs) → t a d D σ H
theorem i_xp {a dd : Addr} {d : Option Addr} {f : Str} {v : V} {fs : List (Str × V)} {i : Nat} {σ : L2.St} {H : Hp} {Q : VK} (e : σ[i]? = some (some (.ref a))) (ed : d = some dd) (h : H dd = some (.xd fs)) (l : fs.lookup f = some v) (q : Q v H) : tXp a d f (tVar i) σ H Q := ⟨_, e, rfl, dd, fs, v, ed, h, l, q⟩
def spRefused (a : Ad) : Sp := fun vs H Q _ => ∃ (e : Addr) (v : V) (z : Str) (low : Int) (m : Nat) (wd : Option Nat), vs = [.ref e, v] ∧ EdAt a H e z low m wd ∧ Th H v ∧ nthV low m v = none ∧ ∀ H' t, Same H H' → H' t = some (.tup []) → Q (.ref t) H'
theorem ok_refused (T : Txt P K mg a) : FnOk P w K mg base CX0 6 a._law_refused.f a._law_refused.fd ["_law_made", "_law_value"] (spRefused a) := by
  have G_written := ok_written (P := P) (w := w) (base := base) T
  have sc : FnScope ["_law_made", "_law_value", "e"] ["_law_made", "_law_value"] (defScope (top 113)) := ⟨rfl, rfl, rfl, by decide +kernel, rfl, by decide +kernel, by decide +kernel⟩
  refine T._law_refused.ok sc (fun vs H Q E h => ?_) (fun cdv A outer s H vs Q E hr h => ?_)
  · obtain ⟨e, v, z, low, m, wd, rfl, _⟩ := h; rfl
  · obtain ⟨e, v, z, low, m, wd, rfl, ED, hv, hj, k⟩ := h
    have hr5 : Room 5 _ := hr.mono (by decide)
    refine ⟨_, pss_cons (ps_try_as (i := 2) (tb := fun W => tDrop (tCallSD (spWritten a) [.non] (WE W) (tCons (tVar 0) (tCons (tVar 1) tNil)))) (ts := tsX K a.C 0 fun x d => tRet (tXp x d "path" (tVar 2))) (Wout := fun _ _ _ _ => False) rfl rfl sc.nd rfl rfl ⟨rfl, by decide, Or.inl (T.er 0 (by decide)).gl⟩ takes0
      (fun W pn xe tk _ => pss_one (ps_expr (by exact pe_callSD G_written hr5 rfl T.written.mg T.written.kp T.written.bd (.cons (show RelV V.non Value.none from rfl) .nil) (fun σ => passAt tk σ) (by exact pa_cons (pv 0) (pa_cons (pv 1) pa_nil)))))
      (fun x oe cls d pn hz hf => ?su)) (pss_one (ps_ret pe_non)), ?_⟩
    case su =>
      refine ⟨fun pins s1 σ1 H1 D1 I1 h1 => ?_⟩
      obtain ⟨ec, kk⟩ := h1
      subst ec
      exact PSs.run (t := tRet (tXp x d "path" (tVar 2))) (pss_one (ps_ret (pe_xP (T.er 0 (by decide)).is ((T.er 0 (by decide)).noA "path" (by decide)) List.mem_cons_self hz hf (pv 2)))) pins s1 σ1 H1 D1 I1 (kk oe hz hf)
    walk_at "go"
    refine ⟨_, rfl, _, rfl, e, v, z, low, m, wd, rfl, ED, hv, fun j hj' H' s1 => ?_, fun _ H' t dd s1 ht nd => ?_⟩
    · rw [hj] at hj'; cases hj'
    · refine ⟨true, (T.er 0 (by decide)).ex 0 (by decide), fun _ x nx => ⟨rfl, fun oe hz hf => ?_⟩, fun z => Bool.noConfusion z⟩
      refine i_ret ?_
      refine i_xp rfl rfl upd_same rfl ?_
      exact k _ t (fun b o eb => same_upd nd _ _ (s1 b o eb)) (same_upd nd _ _ ht)
end
end Me
set_option maxHeartbeats 8000000
namespace Me
open PySem L2


theorem i_part {t : TE} {σ : L2.St} {H : Hp} {Q : Option Int → Hp → Prop} (q : t σ H fun x H1 => ∃ i, x = .int i ∧ Q (some i) H1) : tPart t σ H Q := q
def paF (p : Addr) (x : Str) (i : Nat) (l : Addr) : List (Str × V) := [("plan", .ref p), ("text", .str x), ("at", .int (i : Int)), ("own", .bl true), ("passed", .ref l)]
def PaAt (a : Ad) (H : Hp) (r : Addr) (x : Str) (i : Nat) : Prop := ∃ dx p l, H r = some (.ins a.c_Parse dx (paF p x i l))
def subS (x : Str) (i k : Nat) : Str := ⟨((x.cps.toList.drop i).take k).toArray⟩
theorem cut_sub (x : Str) (i k : Nat) : cutS x (some (i : Int)) (some ((i + k : Nat) : Int)) = subS x i k := by
  have e1 : HT.sIx x.length 0 (some (i : Int)) = min i x.length := HT.sIx_nat _ _ _
  have e2 : HT.sIx x.length x.length (some ((i + k : Nat) : Int)) = min (i + k) x.length := HT.sIx_nat _ _ _
  have ln : x.cps.toList.length = x.length := by simp [Str.length]
  show (⟨((x.cps.toList.drop (HT.sIx x.length 0 (some (i : Int)))).take (HT.sIx x.length x.length (some ((i + k : Nat) : Int)) - HT.sIx x.length 0 (some (i : Int)))).toArray⟩ : Str) = _
  rw [e1, e2]
  unfold subS
  congr 2
  by_cases h : i ≤ x.length
  · rw [Nat.min_eq_left h, List.take_eq_take_iff, List.length_drop]
    omega
  · rw [Nat.min_eq_right (by omega), List.drop_eq_nil_of_le (by omega), List.drop_eq_nil_of_le (by omega)]
    simp
section
variable {P : Program} {w : World} {K : PySem.W.Frag} {mg : Str → Option Value} {base : Heap} {a : Ad}
def spPaI (a : Ad) : Sp := fun vs H Q _ => ∃ (r dx p : Addr) (x : Str), vs = [.ref r, .ref p, .str x] ∧ H r = some (.ins a.c_Parse dx []) ∧ ∀ H', Kept H r H' → PaAt a H' r x 0 → Q .non H'
theorem ok_parse_init (T : Txt P K mg a) : FnOk P w K mg base CX0 1 a.m_Parse_init.f a.m_Parse_init.fd ["self", "plan", "text"] (spPaI a) := by
  have sc : FnScope ["self", "plan", "text"] ["self", "plan", "text"] (defScope (inClass (top 97) 0)) := ⟨rfl, rfl, rfl, by decide +kernel, rfl, by decide +kernel, by decide +kernel⟩
  refine ok0 T.m_Parse_init sc (fun vs H Q E h => ?_) (fun cdv A outer s H vs Q E hr h => ?_)
  · obtain ⟨r, dx, p, x, rfl, _⟩ := h; rfl
  · obtain ⟨r, dx, p, x, rfl, hr1, k⟩ := h
    refine ⟨_, (pss_cons (ps_fld (pv 0) (pv 1) rfl)
      (pss_cons (ps_fld (pv 0) (pv 2) rfl)
      (pss_cons (ps_fld (pv 0) pe_int rfl)
      (pss_cons (ps_fld (pv 0) pe_bl rfl)
      (pss_one (ps_fld (pv 0) (pe_lst pa_nil) rfl)))))), ?_⟩
    have cl := T.cl_Parse
    have no : ∀ f ∈ fields, NoAttr K a.c_Parse f := T.no_Parse
    walk_at "go"
    refine i_sfld ?_
    walk_at "go"
    refine ⟨r, _, dx, [], rfl, hr1, cl, no _ (by decide), by decide, ?_⟩
    walk_at "go"
    refine i_sfld ?_
    walk_at "go"
    refine ⟨r, _, dx, _, rfl, upd_same, cl, no _ (by decide), (by show 1 < 1000; decide), ?_⟩
    walk_at "go"
    refine i_sfld ?_
    walk_at "go"
    refine ⟨r, _, dx, _, rfl, upd_same, cl, no _ (by decide), (by show 2 < 1000; decide), ?_⟩
    walk_at "go"
    refine i_sfld ?_
    walk_at "go"
    refine ⟨r, _, dx, _, rfl, upd_same, cl, no _ (by decide), (by show 3 < 1000; decide), ?_⟩
    dsimp only
    refine i_sfld ?_
    walk_at "go"
    rename_i l nl
    have rl : r ≠ l := ne_of_none upd_same nl
    refine ⟨r, _, dx, _, rfl, upd_get rl upd_same, cl, no _ (by decide), (by show 4 < 1000; decide), ?_⟩
    dsimp only
    exact k _ (Kept.rfl'.upd.upd.upd.upd.new nl).upd ⟨dx, p, l, upd_same⟩
def spCut (a : Ad) : Sp := fun vs H Q _ => ∃ (r : Addr) (x : Str) (i k : Nat), vs = [.ref r, .int (k : Int)] ∧ PaAt a H r x i ∧ x.length ≤ sizeLine ∧ ∀ H', Kept H r H' → PaAt a H' r x (i + k) → Q (.str (subS x i k)) H'
theorem ok_cut (T : Txt P K mg a) : FnOk P w K mg base CX0 1 a.m_Parse_cut.f a.m_Parse_cut.fd ["self", "many"] (spCut a) := by
  have sc : FnScope ["self", "many"] ["self", "many"] (defScope (inClass (top 97) 1)) := ⟨rfl, rfl, rfl, by decide +kernel, rfl, by decide +kernel, by decide +kernel⟩
  refine ok0 T.m_Parse_cut sc (fun vs H Q E h => ?_) (fun cdv A outer s H vs Q E hr h => ?_)
  · obtain ⟨r, x, i, k, rfl, _⟩ := h; rfl
  · obtain ⟨r, x, i, k, rfl, ⟨dx, p, l, hr1⟩, hx, q⟩ := h
    refine ⟨_, (pss_cons (ps_fldaug (pv 0) (pv 1) in_add)
      (pss_one (ps_ret (pe_slice sl_str (pe_fld (pv 0) rfl) (po_some (pe_op op_sub (pe_fld (pv 0) rfl) (pv 1))) (po_some (pe_fld (pv 0) rfl)))))), ?_⟩
    have cl := T.cl_Parse
    have no : ∀ f ∈ fields, NoAttr K a.c_Parse f := T.no_Parse
    walk_at "go"
    refine ⟨_, rfl, r, _, dx, _, .int (i : Int), rfl, hr1, cl, no _ (by decide), rfl, ?_⟩
    refine ⟨_, rfl, (i : Int), (k : Int), rfl, rfl, dx, _, hr1, (by show 5 < 1000; decide), ?_⟩
    dsimp only
    have e1 : (upd H r (HO.ins a.c_Parse dx (putF "at" (V.int (↑i + ↑k)) (paF p x i l)))) r = some (.ins a.c_Parse dx (paF p x (i + k) l)) := upd_same
    have e2 : Kept H r (upd H r (HO.ins a.c_Parse dx (putF "at" (V.int (↑i + ↑k)) (paF p x i l)))) := Kept.rfl'.upd
    generalize upd H r (HO.ins a.c_Parse dx (putF "at" (V.int (↑i + ↑k)) (paF p x i l))) = H1 at e1 e2 ⊢
    refine i_ret ?_
    refine i_fld1 rfl e1 cl (no _ (by decide)) rfl ?_
    refine i_part ?_
    walk_at "go"
    refine i_fld1 rfl e1 cl (no _ (by decide)) rfl ?_
    walk_at "go"
    refine ⟨_, rfl, ?_⟩
    refine i_part ?_
    refine i_fld1 rfl e1 cl (no _ (by decide)) rfl ?_
    refine ⟨_, rfl, x, rfl, hx, ?_⟩
    have ec : cutS x (some (((i + k : Nat) : Int) - (k : Int))) (some ((i + k : Nat) : Int)) = subS x i k := by
      rw [show ((i + k : Nat) : Int) - (k : Int) = (i : Int) by omega]
      exact cut_sub x i k
    have q' := q H1 e2 ⟨dx, p, l, e1⟩
    rw [← ec] at q'
    exact q'
def spNumb (a : Ad) : Sp := fun vs H Q _ => ∃ (r : Addr) (x : Str) (i k : Nat), vs = [.ref r, .int (k : Int)] ∧ PaAt a H r x i ∧ x.length ≤ 100 ∧ allB x.cps.toList ∧ 1 ≤ k ∧ i + k ≤ x.length ∧ ∀ H', Kept H r H' → PaAt a H' r x (i + k) → Q (.int (Bn.binNum ((x.cps.toList.drop i).take k) : Int)) H'
theorem ok_number (T : Txt P K mg a) : FnOk P w K mg base CX0 2 a.m_Parse_number.f a.m_Parse_number.fd ["self", "many"] (spNumb a) := by
  have G_cut := ok_cut (P := P) (w := w) (base := base) T
  have sc : FnScope ["self", "many"] ["self", "many"] (defScope (inClass (top 97) 2)) := ⟨rfl, rfl, rfl, by decide +kernel, rfl, by decide +kernel, by decide +kernel⟩
  refine ok0 T.m_Parse_number sc (fun vs H Q E h => ?_) (fun cdv A outer s H vs Q E hr h => ?_)
  · obtain ⟨r, x, i, k, rfl, _⟩ := h; rfl
  · obtain ⟨r, x, i, k, rfl, PA, hx, hb, h1, h2, q⟩ := h
    have PA0 := PA
    obtain ⟨dx, p, l, hr1⟩ := PA0
    refine ⟨_, (pss_one (ps_ret (pe_callTy call_int_bin (by rfl) T.int (by decide +kernel) (pa_cons (pe_meth (pv 0) T.cl_Parse T.me_m_Parse_cut G_cut (hr.mono (by first | decide | omega)) T.b_m_Parse_cut .nil pass0 (pa_cons (pv 1) pa_nil)) (pa_cons pe_int pa_nil))))), ?_⟩
    have ln : x.cps.toList.length = x.length := by simp [Str.length]
    walk_at "go"
    refine i_meth ?_
    walk_at "go"
    refine ⟨r, dx, _, rfl, hr1, rfl, ?_⟩
    walk_at "go"
    refine ⟨r, x, i, k, rfl, PA, Nat.le_trans hx (by decide), fun H1 k1 PA1 => ?_⟩
    walk_at "go"
    have es : (subS x i k).cps.toList = (x.cps.toList.drop i).take k := by unfold subS; simp
    refine ⟨subS x i k, rfl, ?_, ?_, ?_, ?_⟩
    · rw [es]
      intro z
      have z := congrArg List.length z
      rw [List.length_take, List.length_drop, ln] at z
      simp only [List.length_nil] at z
      omega
    · show (subS x i k).cps.size ≤ 640
      rw [← Array.length_toList, es, List.length_take, List.length_drop, ln]
      omega
    · rw [es]
      exact fun c hc => hb c (List.mem_of_mem_drop (List.mem_of_mem_take hc))
    · rw [es]
      exact q H1 k1 PA1
end
end Me
set_option maxHeartbeats 8000000
namespace Me
open PySem L2


def okLen (m : Nat) (wd : Option Nat) (l : List Nat) : Prop := match wd with
  | some W => W ≤ l.length
  | none => m.log2 ≤ l.length ∧ (shortN m ≤ Bn.binNum (l.take m.log2) → m.log2 + 1 ≤ l.length)
section
variable {P : Program} {w : World} {K : PySem.W.Frag} {mg : Str → Option Value} {base : Heap} {a : Ad}
def spInteger (a : Ad) : Sp := fun vs H Q _ => ∃ (r n : Addr) (x : Str) (low : Int) (m : Nat) (wd : Option Nat), vs = [.ref r, .ref n] ∧ PaAt a H r x 0 ∧ NumOk a.c_Number H n low m wd ∧ x.length ≤ 100 ∧ allB x.cps.toList ∧ okLen m wd x.cps.toList ∧ ∀ H', Kept H r H' → Q (.int (low + (intN m wd x.cps.toList : Nat))) H'
theorem ok_integer (T : Txt P K mg a) : FnOk P w K mg base CX0 3 a.m_Parse_integer.f a.m_Parse_integer.fd ["self", "kind"] (spInteger a) := by
  have G_number := ok_number (P := P) (w := w) (base := base) T
  have G_tight_code : FnOk P w K mg base CX0 1 a.tight_code.f a.tight_code.fd ["many"] spTight := ok_tight T
  have G_how_many_integers : FnOk P w K mg base CX0 1 a.how_many_integers.f a.how_many_integers.fd ["number"] (spMany a) := ok_many T
  have sc : FnScope ["self", "kind", "size", "short", "number"] ["self", "kind"] (defScope (inClass (top 97) 4)) := ⟨rfl, rfl, rfl, by decide +kernel, rfl, by decide +kernel, by decide +kernel⟩
  refine ok0 T.m_Parse_integer sc (fun vs H Q E h => ?_) (fun cdv A outer s H vs Q E hr h => ?_)
  · obtain ⟨r, n, x, low, m, wd, rfl, _⟩ := h; rfl
  · obtain ⟨r, n, x, low, m, wd, rfl, PA, N, hx, hb, hl, q⟩ := h
    refine ⟨_, (pss_cons (ps_if (pt_cmpR op_notN (pe_fld (pv 1) rfl) pe_non (nomark _))
      (pss_one (ps_ret (pe_op op_add (pe_fld (pv 1) rfl) (pe_meth (pv 0) T.cl_Parse T.me_m_Parse_number G_number (hr.mono (by first | decide | omega)) T.b_m_Parse_number .nil pass0 (pa_cons (pe_fld (pv 1) rfl) pa_nil)))))
      pss_nil)
      (pss_cons (ps_asg (pe_call G_tight_code (hr.mono (by first | decide | omega)) rfl T.tight_code.mg T.tight_code.kp T.tight_code.b .nil pass0 (pa_cons (pe_call G_how_many_integers (hr.mono (by first | decide | omega)) rfl T.how_many_integers.mg T.how_many_integers.kp T.how_many_integers.b .nil pass0 (pa_cons (pv 1) pa_nil)) pa_nil)) (pg_tup (by rfl) (pgs_cons (pg_name (i := 2) sc.nd rfl (by first | exact Or.inl rfl | exact Or.inr rfl)) (pgs_cons (pg_name (i := 3) sc.nd rfl (by first | exact Or.inl rfl | exact Or.inr rfl)) pgs_nil))))
      (pss_cons (ps_set (i := 4) sc.nd rfl (by first | exact Or.inl rfl | exact Or.inr rfl) (pe_meth (pv 0) T.cl_Parse T.me_m_Parse_number G_number (hr.mono (by first | decide | omega)) T.b_m_Parse_number .nil pass0 (pa_cons (pv 2) pa_nil)))
      (pss_cons (ps_if (pt_cmpR op_lt (pv 4) (pv 3) (nomark _))
      (pss_one (ps_ret (pe_op op_add (pe_fld (pv 1) rfl) (pv 4))))
      pss_nil)
      (pss_one (ps_ret (pe_op op_sub (pe_op op_add (pe_op op_add (pe_fld (pv 1) rfl) (pe_op op_mul pe_int (pv 4))) (pe_meth (pv 0) T.cl_Parse T.me_m_Parse_number G_number (hr.mono (by first | decide | omega)) T.b_m_Parse_number .nil pass0 (pa_cons pe_int pa_nil))) (pv 3)))))))), ?_⟩
    have ln : x.cps.toList.length = x.length := by simp [Str.length]
    have cl := T.cl_Number
    have no : ∀ f ∈ fields, NoAttr K a.c_Number f := T.no_Number
    have PA0 := PA
    obtain ⟨dx, p, l, hr1⟩ := PA0
    obtain ⟨ndx, e⟩ := N.at_
    have nr : n ≠ r := ne_of e hr1 (fun z => by injection z with _ _ z; cases z)
    walk_at "go"
    refine i_fld1 rfl e cl (no _ (by decide)) rfl ?_
    walk_at "go"
    cases wd with
    | some W =>
      refine ⟨rfl, _, rfl, i_yes rfl ?_⟩
      walk_at "go"
      refine i_fld1 rfl e cl (no _ (by decide)) rfl ?_
      walk_at "go"
      refine i_meth ?_
      walk_at "go"
      refine ⟨r, dx, _, rfl, hr1, rfl, ?_⟩
      walk_at "go"
      refine i_fld1 rfl e cl (no _ (by decide)) rfl ?_
      have hw := N.wd W rfl
      have hl : W ≤ x.cps.toList.length := hl
      refine i_nil ⟨r, x, 0, W, rfl, PA, hx, hb, hw.1, by omega, fun H1 k1 PA1 => ?_⟩
      walk_at "go"
      exact q H1 k1
    | none =>
      obtain ⟨hl1, hl2⟩ := (show m.log2 ≤ x.cps.toList.length ∧ _ from hl)
      have n1 := N.lo
      have n2 := N.hi
      obtain ⟨f1, f2, f3, f4⟩ := log2_facts n1 n2
      refine ⟨rfl, _, rfl, i_no rfl ?_⟩
      walk_at "go"
      refine ⟨n, low, _, none, rfl, N.at_, ?_⟩
      walk_at "go"
      refine ⟨m, by rw [show low + (m : Int) - 1 - low + 1 = (m : Int) by omega]; rfl, n1, n2, fun t nt => ?_⟩
      have es : ((2 ^ (m.log2 + 1) : Nat) : Int) - (m : Int) = ((shortN m : Nat) : Int) := by unfold shortN; omega
      rw [es]
      have s1 := same_upd (o := .tup [.int (m.log2 : Int), .int ((shortN m : Nat) : Int)]) nt
      refine ⟨t, _, rfl, SqT.of upd_same, rfl, ?_⟩
      refine ⟨_, _, rfl, Me.i_gname ⟨_, _, rfl, Me.i_gname ⟨rfl, ?_⟩⟩⟩
      generalize upd H t (.tup [.int (m.log2 : Int), .int ((shortN m : Nat) : Int)]) = H0 at s1 ⊢
      have rt : t ≠ r := fun z => by rw [z, hr1] at nt; cases nt
      have PA1 : PaAt a H0 r x 0 := ⟨dx, p, l, s1 _ _ hr1⟩
      walk_at "go"
      refine i_meth ?_
      walk_at "go"
      refine ⟨r, dx, _, rfl, s1 _ _ hr1, rfl, ?_⟩
      walk_at "go"
      refine ⟨r, x, 0, m.log2, rfl, PA1, hx, hb, f3, by omega, fun H1 k1 PA2 => ?_⟩
      rw [List.drop_zero]
      have e1 := k1 _ _ nr (s1 _ _ e)
      have k01 : Kept H r H1 := fun b o nb eb => k1 _ _ nb (s1 _ _ eb)
      walk_at "go"
      refine i_itd (fun h => ?_) (fun h => ?_)
      · walk_at "go"
        refine i_fld1 rfl e1 cl (no _ (by decide)) rfl ?_
        walk_at "go"
        have q' := q H1 k01
        unfold intN at q'
        dsimp only at q'
        rw [if_pos (by omega)] at q'
        exact q'
      · walk_at "go"
        refine i_fld1 rfl e1 cl (no _ (by decide)) rfl ?_
        walk_at "go"
        obtain ⟨dx2, p2, l2, hr2⟩ := PA2
        refine i_meth ?_
        walk_at "go"
        refine ⟨r, dx2, _, rfl, hr2, rfl, ?_⟩
        walk_at "go"
        rw [Nat.zero_add] at hr2
        have hl3 := hl2 (by omega)
        refine ⟨r, x, m.log2, 1, rfl, ⟨dx2, p2, l2, hr2⟩, hx, hb, by omega, by omega, fun H2 k2 PA3 => ?_⟩
        walk_at "go"
        have q' := q H2 (fun b o nb eb => k2 _ _ nb (k01 _ _ nb eb))
        unfold intN at q'
        dsimp only at q'
        rw [if_neg (by omega)] at q'
        have le : shortN m ≤ 2 * Bn.binNum (x.cps.toList.take m.log2) + Bn.binNum ((x.cps.toList.drop m.log2).take 1) := by omega
        rw [show low + ((2 * Bn.binNum (x.cps.toList.take m.log2) + Bn.binNum ((x.cps.toList.drop m.log2).take 1) - shortN m : Nat) : Int) = low + 2 * (Bn.binNum (x.cps.toList.take m.log2) : Int) + (Bn.binNum ((x.cps.toList.drop m.log2).take 1) : Int) - (shortN m : Int) by omega] at q'
        exact q'
end
end Me
set_option maxHeartbeats 8000000
namespace Me
open PySem L2


section
variable {P : Program} {w : World} {K : PySem.W.Frag} {mg : Str → Option Value} {base : Heap} {a : Ad}
theorem ok_value (T : Txt P K mg a) : FnOk P w K mg base CX0 4 a.m_Parse_value.f a.m_Parse_value.fd ["self", "kind"] (spInteger a) := by
  have G_integer := ok_integer (P := P) (w := w) (base := base) T
  have sc : FnScope ["self", "kind"] ["self", "kind"] (defScope (inClass (top 97) 3)) := ⟨rfl, rfl, rfl, by decide +kernel, rfl, by decide +kernel, by decide +kernel⟩
  refine ok0 T.m_Parse_value sc (fun vs H Q E h => ?_) (fun cdv A outer s H vs Q E hr h => ?_)
  · obtain ⟨r, n, x, low, m, wd, rfl, _⟩ := h; rfl
  · obtain ⟨r, n, x, low, m, wd, rfl, PA, N, hx, hb, hl, q⟩ := h
    refine ⟨_, (pss_cons (ps_if (pt_val (pe_callB call_isi (by rfl) T.isinstance (by decide +kernel) (pa_cons (pv 1) (pa_cons (pe_glob (v := .ref a.c_Nothing) rfl T.Nothing rfl) pa_nil))))
      pss_never
      pss_nil)
      (pss_cons (ps_if (pt_val (pe_callB call_isi (by rfl) T.isinstance (by decide +kernel) (pa_cons (pv 1) (pa_cons (pe_glob (v := .ref a.c_Number) rfl T.Number rfl) pa_nil))))
      (pss_one (ps_ret (pe_meth (pv 0) T.cl_Parse T.me_m_Parse_integer G_integer (hr.mono (by first | decide | omega)) T.b_m_Parse_integer .nil pass0 (pa_cons (pv 1) pa_nil))))
      pss_nil)
      pss_never)), ?_⟩
    have cl := T.cl_Number
    have no : ∀ f ∈ fields, NoAttr K a.c_Number f := T.no_Number
    have PA0 := PA
    obtain ⟨dx, p, l, hr1⟩ := PA0
    obtain ⟨ndx, e⟩ := N.at_
    walk_at "go"
    refine i_isiN (T.ty_Number _ _ _ _ e) T.kt_Number_Nothing ?_
    walk_at "go"
    refine i_isiN (T.ty_Number _ _ _ _ e) T.kt_Number_Number ?_
    walk_at "go"
    refine i_meth ?_
    walk_at "go"
    refine ⟨r, dx, _, rfl, hr1, rfl, ?_⟩
    walk_at "go"
    exact ⟨r, n, x, low, m, wd, rfl, PA, N, hx, hb, hl, q⟩
end
end Me
set_option maxHeartbeats 8000000
namespace Me
open PySem L2


def owedS (wd : Option Nat) : Sx → Nat
  | .run x y => owedN wd x y
  | .whole => 0
section
variable {P : Program} {w : World} {K : PySem.W.Frag} {mg : Str → Option Value} {base : Heap} {a : Ad}
def spFirst (a : Ad) (wd : Option Nat) : Sp := fun vs H Q _ => ∃ (x : Addr) (low : Int) (m : Nat), vs = [.ref x] ∧ NdAt a H x low m wd ∧ ∀ L H', Same H H' → ThsAt H' L x (some (.run (st0 m wd).1 (st0 m wd).2)) → Q (.ref L) H'
theorem ok_first_threads (T : Txt P K mg a) (wd : Option Nat) : FnOk P w K mg base CX0 2 a.first_threads.f a.first_threads.fd ["node"] (spFirst a wd) := by
  have G_nd := ok_nd_begin (P := P) (w := w) (base := base) T wd
  have ndcl := nd_cl T wd
  have ndme := nd_me_begin T wd
  have ndb := nd_b_begin T wd
  obtain ⟨_, hNO_BODY⟩ := T.NO_BODY
  have sc : FnScope ["node"] ["node"] (defScope (top 73)) := ⟨rfl, rfl, rfl, by decide +kernel, rfl, by decide +kernel, by decide +kernel⟩
  refine T.first_threads.ok sc (fun vs H Q E h => ?_) (fun cdv A outer s H vs Q E hr h => ?_)
  · obtain ⟨x, low, m, rfl, _⟩ := h; rfl
  · obtain ⟨x, low, m, rfl, hN, k⟩ := h
    refine ⟨_, (pss_one (ps_ret (pe_meth (pv 0) ndcl ndme G_nd (hr.mono (by first | decide | omega)) ndb .nil pass0 (pa_cons (pe_glob (v := .int (-1)) rfl hNO_BODY ⟨_, rfl⟩) (pa_cons (pe_tup pa_nil) pa_nil))))), ?_⟩
    obtain ⟨dx, fs, hx, n1, n2, n3⟩ := hN.ins
    walk_at "go"
    refine i_meth ?_
    walk_at "go"
    refine ⟨x, dx, fs, rfl, hx, n1, ?_⟩
    walk_at "go"
    rename_i bl nb
    have s1 := same_upd (o := .tup []) nb
    exact ⟨x, bl, low, m, rfl, hN.same s1, upd_same, fun L H' s2 th => k L H' (fun b o e => s2 _ _ (s1 _ _ e)) th⟩
def spLack (a : Ad) (wd : Option Nat) : Sp := fun vs H Q _ => ∃ (th x : Addr) (s : Sx) (low : Int) (m : Nat), vs = [.ref th] ∧ ThAt H th x s ∧ NdAt a H x low m wd ∧ ∀ H', Same H H' → Q (.int (owedS wd s : Int)) H'
theorem ok_lack_of (T : Txt P K mg a) (wd : Option Nat) : FnOk P w K mg base CX0 2 a.lack_of.f a.lack_of.fd ["thread"] (spLack a wd) := by
  have G_nd := ok_nd_owed (P := P) (w := w) (base := base) T wd
  have ndcl := nd_cl T wd
  have ndme := nd_me_owed T wd
  have ndb := nd_b_owed T wd
  obtain ⟨_, hNEVER⟩ := T.NEVER
  have sc : FnScope ["thread", "left", "stack", "total", "due", "node", "a", "b", "owed"] ["thread"] (defScope (top 74)) := ⟨rfl, rfl, rfl, by decide +kernel, rfl, by decide +kernel, by decide +kernel⟩
  refine T.lack_of.ok sc (fun vs H Q E h => ?_) (fun cdv A outer s H vs Q E hr h => ?_)
  · obtain ⟨th, x, sx, low, m, rfl, _⟩ := h; rfl
  · obtain ⟨th, x, sx, low, m, rfl, hT, hN, k⟩ := h
    refine ⟨_, (pss_cons (ps_asg (pv 0) (pg_tup (by rfl) (pgs_cons (pg_name (i := 1) sc.nd rfl (by first | exact Or.inl rfl | exact Or.inr rfl)) (pgs_cons (pg_name (i := 2) sc.nd rfl (by first | exact Or.inl rfl | exact Or.inr rfl)) pgs_nil))))
      (pss_cons (ps_set (i := 3) sc.nd rfl (by first | exact Or.inl rfl | exact Or.inr rfl) pe_int)
      (pss_cons (ps_set (i := 4) sc.nd rfl (by first | exact Or.inl rfl | exact Or.inr rfl) pe_int)
      (pss_cons (ps_for PassesOwn.never rfl (pi_tup (pe_revT (pv 2))) (pg_tup (by rfl) (pgs_cons (pg_name (i := 5) sc.nd rfl (by first | exact Or.inl rfl | exact Or.inr rfl)) (pgs_cons (pg_name (i := 6) sc.nd rfl (by first | exact Or.inl rfl | exact Or.inr rfl)) (pgs_cons (pg_name (i := 7) sc.nd rfl (by first | exact Or.inl rfl | exact Or.inr rfl)) pgs_nil))))
      (pss_one (ps_if (PW.pt (pw_and (pt_val (pe_callB call_isi (by rfl) T.isinstance (by decide +kernel) (pa_cons (pv 5) (pa_cons (pe_glob (v := .ref a.c_BodyNode) rfl T.BodyNode rfl) pa_nil)))) (pw_and1 pt_never)))
      pss_never
      (pss_cons (ps_set (i := 8) sc.nd rfl (by first | exact Or.inl rfl | exact Or.inr rfl) (pe_meth (pv 5) ndcl ndme G_nd (hr.mono (by first | decide | omega)) ndb .nil pass0 (pa_cons (pv 6) (pa_cons (pv 7) pa_nil))))
      (pss_cons (ps_if (pt_cmpR op_eq (pv 8) (pe_glob (v := .int (-1)) rfl hNEVER ⟨_, rfl⟩) (nomark _))
      pss_never
      pss_nil)
      (pss_one (ps_aug (i := 4) sc.nd rfl (.inl rfl) (pv 8) ip_add)))))))
      (pss_one (ps_ret (pe_op op_add (pv 3) (pv 4)))))))), ?_⟩
    obtain ⟨dx, fs, hx, n1, n2, n3⟩ := hN.ins
    walk_at "go"
    obtain ⟨st, hth, hst⟩ := hT
    refine ⟨th, _, rfl, SqT.of hth, rfl, ?_⟩
    refine ⟨_, _, rfl, Me.i_gname ⟨_, _, rfl, Me.i_gname ⟨rfl, ?_⟩⟩⟩
    walk_at "go"
    cases sx with
    | run u v =>
      obtain ⟨fr, e1, e2⟩ := hst
      refine ⟨_, rfl, st, [.ref fr], rfl, SqT.of e1, Nat.le_refl _, fun q nq => ?_⟩
      have s1 := same_upd (o := .tup [.ref fr]) nq
      refine ⟨q, rfl, ⟨_, SqT.of upd_same⟩, ?_⟩
      refine for_tup (xs := [.ref fr]) (fun i σ' H' => Same (upd H q (.tup [.ref fr])) H' ∧ (∃ v5 v6 v7 v8, σ' = [some (.ref th), some (.int (-1)), some (.ref st), some (.int 0), some (.int (if i = 0 then 0 else (owedN wd u v : Int))), v5, v6, v7, v8])) ⟨fun _ _ e => e, _, _, _, _, rfl⟩ (fun i σ' H' _ h => SqT.of (h.1 _ _ upd_same)) (fun i y σ' H' hy h => ?_) (fun σ' H' h => ?_)
      · match i, hy with
        | 0, hy =>
          cases hy
          obtain ⟨s2, v5, v6, v7, v8, rfl⟩ := h
          refine ⟨fr, _, rfl, SqT.of (s2 _ _ (s1 _ _ e2)), rfl, ?_⟩
          refine ⟨_, _, rfl, Me.i_gname ⟨_, _, rfl, Me.i_gname ⟨_, _, rfl, Me.i_gname ⟨rfl, ?_⟩⟩⟩⟩
          walk_at "go"
          have hx2 := s2 _ _ (s1 _ _ hx)
          refine i_isiN (nd_ty T hx2) (nd_kt T wd) ?_
          refine ⟨false, rfl, i_no rfl ?_⟩
          walk_at "go"
          refine i_meth ?_
          walk_at "go"
          refine ⟨x, dx, fs, rfl, hx2, n2, ?_⟩
          walk_at "go"
          refine ⟨x, u, v, rfl, ?_⟩
          walk_at "go"
          refine i_itei (fun z => absurd z (by omega)) (fun _ => ?_)
          walk_at "go"
          dsimp only
          refine ⟨_, rfl, _, rfl, 0, (owedN wd u v : Int), rfl, rfl, s2, some (.ref x), some (.int (u : Int)), some (.int (v : Int)), some (.int (owedN wd u v : Int)), ?_⟩
          rw [show (fun i j : Int => i + j) 0 (owedN wd u v : Int) = (owedN wd u v : Int) from Int.zero_add _]
          rfl
        | i + 1, hy => simp at hy
      · obtain ⟨s2, v5, v6, v7, v8, rfl⟩ := h
        walk_at "go"
        have q := k H' (fun b o e => s2 _ _ (s1 _ _ e))
        rw [show ((owedS wd (.run u v) : Nat) : Int) = 0 + (owedN wd u v : Int) by show (owedN wd u v : Int) = _; omega] at q
        exact q
    | whole =>
      have hst : H st = some (.tup []) := hst
      refine ⟨_, rfl, st, [], rfl, SqT.of hst, Nat.zero_le _, fun q nq => ?_⟩
      have s1 := same_upd (o := .tup []) nq
      refine ⟨q, rfl, ⟨_, SqT.of upd_same⟩, ?_⟩
      refine for_tup (xs := []) (fun i σ' H' => H' = upd H q (.tup []) ∧ σ' = [some (.ref th), some (.int (-1)), some (.ref st), some (.int 0), some (.int 0), none, none, none, none]) ⟨rfl, rfl⟩ (fun i σ' H' _ h => by rw [h.1]; exact SqT.of upd_same) (fun i y σ' H' hy h => by simp at hy) (fun σ' H' h => ?_)
      obtain ⟨rfl, rfl⟩ := h
      walk_at "go"
      exact k _ s1
end
end Me
set_option maxHeartbeats 8000000
namespace Me
open PySem L2


theorem i_nopart {σ : L2.St} {H : Hp} {Q : Option Int → Hp → Prop} (q : Q none H) : tNoPart σ H Q := q
theorem ThsAt.list {H : Hp} {L x : Addr} {o : Option Sx} (h : ThsAt H L x o) : ∃ xs, H L = some (.lst xs) ∧ xs.length ≤ 1 ∧ (∀ y ∈ xs, ∃ th s, y = .ref th ∧ ThAt H th x s) ∧ ∀ D G, Same H G → G D = some (.lst xs) → ThsAt G D x o := by
  cases o with
  | none => exact ⟨[], h, by decide, fun y hy => by simp at hy, fun D G _ e => e⟩
  | some s =>
    obtain ⟨th, e, r⟩ := h
    exact ⟨[.ref th], e, Nat.le_refl _, fun y hy => ⟨th, s, List.mem_singleton.mp hy, r⟩, fun D G k e => ⟨th, e, r.same k⟩⟩
section
variable {P : Program} {w : World} {K : PySem.W.Frag} {mg : Str → Option Value} {base : Heap} {a : Ad}
def spPath : Sp := fun vs H Q _ => ∃ st : Addr, vs = [.ref st] ∧ H st = some (.tup []) ∧ ∀ t H', Same H H' → Q (.ref t) H'
theorem ok_path_of (T : Txt P K mg a) : FnOk P w K mg base CX0 1 a.path_of.f a.path_of.fd ["stack"] spPath := by
  have sc : FnScope ["stack", "names", "node", "a", "b"] ["stack"] (defScope (top 76)) := ⟨rfl, rfl, rfl, by decide +kernel, rfl, by decide +kernel, by decide +kernel⟩
  refine T.path_of.ok sc (fun vs H Q E h => ?_) (fun cdv A outer s H vs Q E hr h => ?_)
  · obtain ⟨st, rfl, _⟩ := h; rfl
  · obtain ⟨st, rfl, hst, k⟩ := h
    refine ⟨_, (pss_cons (ps_set (i := 1) sc.nd rfl (by first | exact Or.inl rfl | exact Or.inr rfl) (pe_lst pa_nil))
      (pss_cons (ps_for PassesOwn.never rfl (pi_tup (pv 0)) (pg_tup (by rfl) (pgs_cons (pg_name (i := 2) sc.nd rfl (by first | exact Or.inl rfl | exact Or.inr rfl)) (pgs_cons (pg_name (i := 3) sc.nd rfl (by first | exact Or.inl rfl | exact Or.inr rfl)) (pgs_cons (pg_name (i := 4) sc.nd rfl (by first | exact Or.inl rfl | exact Or.inr rfl)) pgs_nil))))
      pss_never)
      (pss_one (ps_ret (pe_callTy call_tuple_of (by rfl) T.tuple (by decide +kernel) (pa_cons (pv 1) pa_nil)))))), ?_⟩
    walk_at "go"
    rename_i l nl
    have s1 := same_upd (o := .lst []) nl
    refine ⟨_, rfl, st, rfl, ⟨_, SqT.of (s1 _ _ hst)⟩, ?_⟩
    refine for_tup (xs := []) (fun i σ' H' => H' = upd H l (.lst []) ∧ σ' = (L2.start ["stack", "names", "node", "a", "b"] [.ref st]).set 1 (some (.ref l))) ⟨rfl, rfl⟩ (fun i σ' H' _ h => by rw [h.1]; exact SqT.of (s1 _ _ hst)) (fun i y σ' H' hy h => by simp at hy) (fun σ' H' h => ?_)
    obtain ⟨rfl, rfl⟩ := h
    walk_at "go"
    exact ⟨l, [], rfl, .inl ⟨SqL.of upd_same, fun t nt => k t _ (Same.new s1 nt)⟩⟩
def spFed (a : Ad) (wd : Option Nat) : Sp := fun vs H Q _ => ∃ (th x : Addr) (low : Int) (m u v : Nat) (c : Bool), vs = [.ref th, .str (bitC c)] ∧ ThAt H th x (.run u v) ∧ NdAt a H x low m wd ∧ okS wd u v ∧
  ∀ t L told H', Same H H' → H' t = some (.tup [.ref L, told]) → ThsAt H' L x (feedN wd u v c) → Q (.ref t) H'
theorem ok_fed (T : Txt P K mg a) (wd : Option Nat) : FnOk P w K mg base CX0 3 a.fed.f a.fed.fd ["thread", "bit"] (spFed a wd) := by
  have G_nd := ok_nd_feed (P := P) (w := w) (base := base) T wd
  have G_lack_of := ok_lack_of (P := P) (w := w) (base := base) T wd
  have G_path_of := ok_path_of (P := P) (w := w) (base := base) T
  have ndcl := nd_cl T wd
  have ndme := nd_me_feed T wd
  have ndb := nd_b_feed T wd
  obtain ⟨_, hNEVER⟩ := T.NEVER
  have sc : FnScope ["thread", "bit", "left", "stack", "node", "a", "b", "below", "threads", "told", "live", "further"] ["thread", "bit"] (defScope (top 75)) := ⟨rfl, rfl, rfl, by decide +kernel, rfl, by decide +kernel, by decide +kernel⟩
  refine T.fed.ok sc (fun vs H Q E h => ?_) (fun cdv A outer s H vs Q E hr h => ?_)
  · obtain ⟨th, x, low, m, u, v, c, rfl, _⟩ := h; rfl
  · obtain ⟨th, x, low, m, u, v, c, rfl, hT, hN, hs, k⟩ := h
    refine ⟨_, (pss_cons (ps_asg (pv 0) (pg_tup (by rfl) (pgs_cons (pg_name (i := 2) sc.nd rfl (by first | exact Or.inl rfl | exact Or.inr rfl)) (pgs_cons (pg_name (i := 3) sc.nd rfl (by first | exact Or.inl rfl | exact Or.inr rfl)) pgs_nil))))
      (pss_cons (ps_if (pt_cmpR (op_eqT0 (Nat.lt_of_le_of_lt (Nat.le_add_right _ 64) hr.units)) (pv 3) (pe_tup pa_nil) (nomark _))
      pss_never
      pss_nil)
      (pss_cons (ps_asg (pe_ix ix_tup (pv 3) (pe_un un_neg pe_int) (fun _ _ => rfl)) (pg_tup (by rfl) (pgs_cons (pg_name (i := 4) sc.nd rfl (by first | exact Or.inl rfl | exact Or.inr rfl)) (pgs_cons (pg_name (i := 5) sc.nd rfl (by first | exact Or.inl rfl | exact Or.inr rfl)) (pgs_cons (pg_name (i := 6) sc.nd rfl (by first | exact Or.inl rfl | exact Or.inr rfl)) pgs_nil)))))
      (pss_cons (ps_set (i := 7) sc.nd rfl (by first | exact Or.inl rfl | exact Or.inr rfl) (pe_slice sl_tupA (pv 3) po_none (po_some (pe_un un_neg pe_int))))
      (pss_cons (ps_asg (pe_meth (pv 4) ndcl ndme G_nd (hr.mono (by first | decide | omega)) ndb .nil pass0 (pa_cons (pe_ifExp (pt_cmpR op_gt (pv 2) pe_int (nomark _)) (pe_op op_sub (pv 2) pe_int) (pv 2)) (pa_cons (pv 7) (pa_cons (pv 5) (pa_cons (pv 6) (pa_cons (pv 1) pa_nil)))))) (pg_tup (by rfl) (pgs_cons (pg_name (i := 8) sc.nd rfl (by first | exact Or.inl rfl | exact Or.inr rfl)) (pgs_cons (pg_name (i := 9) sc.nd rfl (by first | exact Or.inl rfl | exact Or.inr rfl)) pgs_nil))))
      (pss_cons (ps_setLc (i := 10) (own := [("further", 11)]) (g := gName 11) (by rfl) sc.nd rfl rfl (sw_true rfl rfl rfl (by decide +kernel)) (pi_list (pv 8)) (blkOk_by (own := [("further", 11)]) (N := ["thread", "bit", "left", "stack", "node", "a", "b", "below", "threads", "told", "live", "further"]) (sc := defScope (top 75)) (by decide +kernel)) (fun _ _ _ _ _ => pg_name (i := 11) sc.nd rfl (Or.inl rfl)) (fun _ _ _ _ _ => (pts_one (pt_cmpR op_ne (pe_call G_lack_of (hr.mono (by first | decide | omega)) rfl T.lack_of.mg T.lack_of.kp T.lack_of.b .nil pass0 (pa_cons (pv 11) pa_nil)) (pe_glob (v := .int (-1)) rfl hNEVER ⟨_, rfl⟩) (nomark _)))) (fun _ _ _ _ _ => (by exact (pv 11))))
      (pss_cons (ps_if (pt_cmpR op_isN (pv 9) pe_non (nomark _))
      (pss_one (ps_ret (pe_tup (pa_cons (pv 10) (pa_cons pe_non pa_nil)))))
      pss_nil)
      (pss_one (ps_ret (pe_tup (pa_cons (pv 10) (pa_cons (pe_tup (pa_cons (pe_call G_path_of (hr.mono (by first | decide | omega)) rfl T.path_of.mg T.path_of.kp T.path_of.b .nil pass0 (pa_cons (pv 7) pa_nil)) (pa_cons (pe_ix ix_tup (pv 9) pe_int (fun _ _ => rfl)) (pa_cons (pe_ix ix_tup (pv 9) pe_int (fun _ _ => rfl)) pa_nil)))) pa_nil)))))))))))), ?_⟩
    obtain ⟨dx, fs, hx, n1, n2, n3⟩ := hN.ins
    obtain ⟨st, hth, fr, hst, hfr⟩ := hT
    walk_at "go"
    refine ⟨th, _, rfl, SqT.of hth, rfl, ?_⟩
    refine ⟨_, _, rfl, Me.i_gname ⟨_, _, rfl, Me.i_gname ⟨rfl, ?_⟩⟩⟩
    walk_at "go"
    rename_i bs nbs
    have s1 := same_upd (o := .tup []) nbs
    refine ⟨st, bs, [.ref fr], rfl, rfl, SqT.of (s1 _ _ hst), SqT.of upd_same, ?_⟩
    refine ⟨_, rfl, i_no rfl ?_⟩
    walk_at "go"
    refine ⟨fr, _, rfl, SqT.of (s1 _ _ hfr), rfl, ?_⟩
    refine ⟨_, _, rfl, Me.i_gname ⟨_, _, rfl, Me.i_gname ⟨_, _, rfl, Me.i_gname ⟨rfl, ?_⟩⟩⟩⟩
    walk_at "go"
    refine ⟨_, rfl, ?_⟩
    refine i_nopart ?_
    refine i_part ?_
    walk_at "go"
    refine ⟨-1, rfl, st, [.ref fr], rfl, SqT.of (s1 _ _ hst), fun z => absurd z.2 (show ¬ HT.sIx 1 1 (some (-1)) = 1 by decide +kernel), fun _ bl nbl => ?_⟩
    have s2 := same_upd (o := .tup (cutV [.ref fr] none (some (-1)))) nbl
    have hbl : upd (upd H bs (.tup [])) bl (.tup (cutV [.ref fr] none (some (-1)))) bl = some (.tup []) := upd_same
    have s12 : Same H (upd (upd H bs (.tup [])) bl (.tup (cutV [.ref fr] none (some (-1))))) := fun b o e => s2 _ _ (s1 _ _ e)
    generalize upd (upd H bs (.tup [])) bl (.tup (cutV [.ref fr] none (some (-1)))) = H1 at hbl s12 ⊢
    walk_at "go"
    refine i_meth ?_
    walk_at "go"
    refine ⟨x, dx, fs, rfl, s12 _ _ hx, n3, ?_⟩
    walk_at "go"
    refine i_itd (fun z => absurd z (by decide)) (fun _ => ?_)
    walk_at "go"
    refine ⟨x, bl, low, m, u, v, c, rfl, hN.same s12, hbl, hs, fun t L told H2 s3 ht hL hT => ?_⟩
    have s13 : Same H H2 := fun b o e => s3 _ _ (s12 _ _ e)
    obtain ⟨xs, hLx, hx1, hth2, hfin⟩ := hL.list
    refine ⟨t, _, rfl, SqT.of ht, rfl, ?_⟩
    refine ⟨_, _, rfl, Me.i_gname ⟨_, _, rfl, Me.i_gname ⟨rfl, ?_⟩⟩⟩
    walk_at "go"
    refine ⟨_, rfl, L, rfl, ⟨_, SqL.of hLx⟩, fun D nD => ?_⟩
    refine lc_list (K := K) (a := L) (xs := xs) (fun i G => Same H2 G ∧ G D = some (.lst (xs.take i))) ⟨same_upd nD, upd_same⟩ (fun i G _ h => SqL.of (h.1 _ _ hLx)) (fun i y G hy h => ?_) (fun G h => ?_)
    · obtain ⟨s4, hD⟩ := h
      obtain ⟨th2, sx, rfl, hT2⟩ := hth2 y (List.mem_of_getElem? hy)
      refine ⟨rfl, ?_⟩
      walk_at "go"
      have sG : Same H G := fun b o e => s4 _ _ (s13 _ _ e)
      refine ⟨th2, x, sx, low, m, rfl, hT2.same s4, hN.same sG, fun G2 s5 => ?_⟩
      walk_at "go"
      refine i_iten (fun _ => ?_) (fun z => absurd z (by omega))
      walk_at "go"
      have hlt := (List.getElem?_eq_some_iff.mp hy).1
      refine ⟨xs.take i, s5 _ _ hD, ?_, fun b o e => ?_, ?_⟩
      · rw [List.length_take]
        have : (1 : Nat) < sizeLine := by decide
        omega
      · rw [upd_ne (ne_of_none e nD)]
        exact s5 _ _ (s4 _ _ e)
      · rw [upd_same, List.take_succ, hy]; rfl
    · obtain ⟨s4, hD⟩ := h
      rw [List.take_length] at hD
      have sG : Same H G := fun b o e => s4 _ _ (s13 _ _ e)
      have hLD := hfin D G s4 hD
      refine i_gname ?_
      rcases hT with rfl | ⟨r, i, rfl, hr⟩
      · walk_at "go"
        refine ⟨rfl, _, rfl, i_yes rfl ?_⟩
        walk_at "go"
        rename_i q nq
        have s6 := same_upd (o := .tup [.ref D, .non]) nq
        exact k q D .non _ (fun b o e => s6 _ _ (sG _ _ e)) upd_same (hLD.same s6)
      · walk_at "go"
        refine ⟨rfl, _, rfl, i_no rfl ?_⟩
        walk_at "go"
        refine ⟨bl, rfl, s4 _ _ (s3 _ _ hbl), fun pt G2 s5 => ?_⟩
        have hr2 := s5 _ _ (s4 _ _ hr)
        walk_at "go"
        rename_i t1 nt1 t2 nt2
        have s6 := same_upd (o := .tup [.ref pt, .str "number", .int i]) nt1
        have s7 := same_upd (o := .tup [.ref D, .ref t1]) nt2
        exact k t2 D (.ref t1) _ (fun b o e => s7 _ _ (s6 _ _ (s5 _ _ (sG _ _ e)))) upd_same (((hLD.same s5).same s6).same s7)
end
end Me
set_option maxHeartbeats 8000000
namespace Me
open PySem L2


def isWh : Sx → Bool
  | .whole => true
  | _ => false
def rEqT0 (K : PySem.W.Frag) : R2 := fun x y H Q => ∃ a b xs, x = .ref a ∧ y = .ref b ∧ SqT K H a xs ∧ SqT K H b [] ∧ Q (.bl xs.isEmpty) H
theorem ThAt.sameT {H G : Hp} {th p : Addr} {s : Sx} (h : ThAt H th p s) (k : ∀ b t, H b = some (.tup t) → G b = some (.tup t)) : ThAt G th p s := by
  obtain ⟨st, e, r⟩ := h
  refine ⟨st, k _ _ e, ?_⟩
  cases s with
  | run x y => obtain ⟨fr, e1, e2⟩ := r; exact ⟨fr, k _ _ e1, k _ _ e2⟩
  | whole => exact k _ _ r
theorem ThsAt.listT {H : Hp} {L x : Addr} {o : Option Sx} (h : ThsAt H L x o) : ∃ xs, H L = some (.lst xs) ∧ xs.length ≤ 1 ∧ ∀ D G, (∀ b t, H b = some (.tup t) → G b = some (.tup t)) → G D = some (.lst xs) → ThsAt G D x o := by
  cases o with
  | none => exact ⟨[], h, by decide, fun D G _ e => e⟩
  | some s =>
    obtain ⟨th, e, r⟩ := h
    exact ⟨[.ref th], e, Nat.le_refl _, fun D G k e => ⟨th, e, r.sameT k⟩⟩
section
variable {P : Program} {w : World} {K : PySem.W.Frag} {mg : Str → Option Value} {base : Heap} {a : Ad}
def spFedAll (a : Ad) (wd : Option Nat) : Sp := fun vs H Q _ => ∃ (l x : Addr) (low : Int) (m u v : Nat) (c : Bool), vs = [.ref l, .str (bitC c)] ∧ ThsAt H l x (some (.run u v)) ∧ NdAt a H x low m wd ∧ okS wd u v ∧
  ∀ L H', Same H H' → ThsAt H' L x (feedN wd u v c) → Q (.ref L) H'
theorem ok_fed_all (T : Txt P K mg a) (wd : Option Nat) : FnOk P w K mg base CX0 4 a.fed_all.f a.fed_all.fd ["threads", "bit"] (spFedAll a wd) := by
  have G_fed := ok_fed (P := P) (w := w) (base := base) T wd
  have sc : FnScope ["threads", "bit", "further", "thread"] ["threads", "bit"] (defScope (top 77)) := ⟨rfl, rfl, rfl, by decide +kernel, rfl, by decide +kernel, by decide +kernel⟩
  refine T.fed_all.ok sc (fun vs H Q E h => ?_) (fun cdv A outer s H vs Q E hr h => ?_)
  · obtain ⟨l, x, low, m, u, v, c, rfl, _⟩ := h; rfl
  · obtain ⟨l, x, low, m, u, v, c, rfl, ⟨th, hl, hT⟩, hN, hs, k⟩ := h
    refine ⟨_, (pss_cons (ps_set (i := 2) sc.nd rfl (by first | exact Or.inl rfl | exact Or.inr rfl) (pe_lst pa_nil))
      (pss_cons (ps_for PassesOwn.never rfl (pi_list (pv 0)) (pg_name (i := 3) sc.nd rfl (by first | exact Or.inl rfl | exact Or.inr rfl))
      (pss_one (ps_expr (pe_bm PySem.F.plainAttrs_list PySem.F.slot_list_extend PySem.F.type_list_extend mt_extend (pv 2) (pa_cons (pe_ix ix_tup (pe_call G_fed (hr.mono (by first | decide | omega)) rfl T.fed.mg T.fed.kp T.fed.b .nil pass0 (pa_cons (pv 3) (pa_cons (pv 1) pa_nil))) pe_int (fun _ _ => rfl)) pa_nil)))))
      (pss_one (ps_ret (pv 2))))), ?_⟩
    walk_at "go"
    rename_i D nD
    have s1 := same_upd (o := .lst []) nD
    refine ⟨_, rfl, l, rfl, ⟨_, SqL.of (s1 _ _ hl)⟩, ?_⟩
    refine for_list (K := K) (a := l) (xs := [.ref th]) (fun i σ' H' => Same H H' ∧ (∃ v3, σ' = [some (.ref l), some (.str (bitC c)), some (.ref D), v3]) ∧ (i = 0 → H' D = some (.lst [])) ∧ (i = 1 → ThsAt H' D x (feedN wd u v c))) ⟨s1, ⟨_, rfl⟩, fun _ => upd_same, fun z => absurd z (by decide)⟩ (fun i σ' H' _ h => SqL.of (h.1 _ _ hl)) (fun i y σ' H' hy h => ?_) (fun σ' H' h => ?_)
    · match i, hy with
      | 0, hy =>
        cases hy
        obtain ⟨s2, ⟨v3, rfl⟩, hD, _⟩ := h
        have hD := hD rfl
        refine i_gname ?_
        refine i_drop ?_
        refine ⟨_, rfl, .inl ⟨rfl, _, SqL.of hD⟩, ?_⟩
        walk_at "go"
        refine ⟨th, x, low, m, u, v, c, rfl, hT.same s2, hN.same s2, hs, fun t L told H2 s3 ht hL => ?_⟩
        walk_at "go"
        obtain ⟨xs, hLx, hx1, hfin⟩ := hL.listT
        have hD2 := s3 _ _ hD
        refine ⟨D, L, [], xs, rfl, rfl, hD2, hLx, ?_, ?_⟩
        · have : (1 : Nat) < sizeLine := by decide
          show 0 + xs.length ≤ _
          omega
        · refine ⟨fun b o e => ?_, ⟨_, rfl⟩, fun z => absurd z (by decide), fun _ => hfin D _ (fun b t e => ?_) upd_same⟩
          · rw [upd_ne (ne_of_none e nD)]; exact s3 _ _ (s2 _ _ e)
          · rw [upd_ne (ne_of e hD2 (by intro z; cases z))]; exact e
      | i + 1, hy => simp at hy
    · obtain ⟨s2, ⟨v3, rfl⟩, _, hD⟩ := h
      walk_at "go"
      exact k D H' s2 (hD rfl)
def spWhole (a : Ad) : Sp := fun vs H Q _ => ∃ (l x : Addr) (sx : Sx), vs = [.ref l] ∧ ThsAt H l x (some sx) ∧ ∀ H', Same H H' → Q (.bl (isWh sx)) H'
theorem ok_are_whole (T : Txt P K mg a) : FnOk P w K mg base CX0 1 a.are_whole.f a.are_whole.fd ["threads"] (spWhole a) := by
  have sc : FnScope ["threads", "_", "stack"] ["threads"] (defScope (top 78)) := ⟨rfl, rfl, rfl, by decide +kernel, rfl, by decide +kernel, by decide +kernel⟩
  refine T.are_whole.ok sc (fun vs H Q E h => ?_) (fun cdv A outer s H vs Q E hr h => ?_)
  · obtain ⟨l, x, sx, rfl, _⟩ := h; rfl
  · obtain ⟨l, x, sx, rfl, ⟨th, hl, st, hth, hst⟩, k⟩ := h
    refine ⟨_, (pss_one (ps_ret (pe_callB (cr_any rfl) (by rfl) T.any (by decide +kernel) (pa_cons (pe_lc (te := tOp (rEqT0 K) (tVar 2) (tTup tNil)) (own := [("_", 1), ("stack", 2)]) (g := gTup K 2 (gCons (gName 1) (gCons (gName 2) gNil))) (by rfl) sc.nd (pi_list (pv 0)) (blkOk_by (own := [("_", 1), ("stack", 2)]) (N := ["threads", "_", "stack"]) (sc := defScope (top 78)) (by decide +kernel)) (fun _ _ _ _ _ => (by exact (pg_tup (by rfl) (pgs_cons (pg_name (i := 1) sc.nd rfl (by first | exact Or.inl rfl | exact Or.inr rfl)) (pgs_cons (pg_name (i := 2) sc.nd rfl (by first | exact Or.inl rfl | exact Or.inr rfl)) pgs_nil))))) (fun _ _ _ _ _ => pts_nil) (fun _ _ _ _ _ => (by exact (pe_cmpR (op_eqT0 (Nat.lt_of_le_of_lt (Nat.le_add_right _ 64) hr.units)) (pv 2) (pe_tup pa_nil) (nomark _))))) pa_nil)))), ?_⟩
    walk_at "go"
    refine ⟨_, rfl, l, rfl, ⟨_, SqL.of hl⟩, fun D nD => ?_⟩
    have s1 := same_upd (o := .lst []) nD
    refine lc_list (K := K) (a := l) (xs := [.ref th]) (fun i G => Same H G ∧ G D = some (.lst (List.replicate i (.bl (isWh sx))))) ⟨s1, upd_same⟩ (fun i G _ h => SqL.of (h.1 _ _ hl)) (fun i y G hy h => ?_) (fun G h => ?_)
    · match i, hy with
      | 0, hy =>
        cases hy
        obtain ⟨s2, hD⟩ := h
        refine ⟨th, _, rfl, SqT.of (s2 _ _ hth), rfl, ?_⟩
        refine ⟨_, _, rfl, Me.i_gname ⟨_, _, rfl, Me.i_gname ⟨rfl, rfl, ?_⟩⟩⟩
        unfold tYes
        with_reducible refine L2.iteT ?_
        walk_at "go"
        rename_i bs nbs
        have s3 := same_upd (o := .tup []) nbs
        have hD3 := s3 _ _ hD
        have ok : ∃ ys : List V, H st = some (.tup ys) ∧ ys.isEmpty = isWh sx := by
          cases sx with
          | run u v => obtain ⟨fr, e1, e2⟩ := hst; exact ⟨_, e1, rfl⟩
          | whole => exact ⟨_, hst, rfl⟩
        obtain ⟨ys, hys, ey⟩ := ok
        refine ⟨st, bs, ys, rfl, rfl, SqT.of (s3 _ _ (s2 _ _ hys)), SqT.of upd_same, ?_⟩
        rw [ey]
        refine ⟨_, hD3, (by show 0 < sizeLine; decide), fun b o e => ?_, upd_same⟩
        rw [upd_ne (ne_of_none e nD)]
        exact s3 _ _ (s2 _ _ e)
      | i + 1, hy => simp at hy
    · obtain ⟨s2, hD⟩ := h
      walk_at "go"
      refine ⟨D, [isWh sx], rfl, SqL.of hD, ?_⟩
      have k := k G s2
      rw [show ([isWh sx].any id) = isWh sx by cases isWh sx <;> rfl]
      exact k
def spLeast (a : Ad) (wd : Option Nat) : Sp := fun vs H Q _ => ∃ (l x : Addr) (sx : Sx) (low : Int) (m : Nat), vs = [.ref l] ∧ ThsAt H l x (some sx) ∧ NdAt a H x low m wd ∧ ∀ H', Same H H' → Q (.int (owedS wd sx : Int)) H'
theorem ok_least_lack (T : Txt P K mg a) (wd : Option Nat) : FnOk P w K mg base CX0 3 a.least_lack.f a.least_lack.fd ["threads"] (spLeast a wd) := by
  have G_lack_of := ok_lack_of (P := P) (w := w) (base := base) T wd
  have sc : FnScope ["threads", "thread"] ["threads"] (defScope (top 79)) := ⟨rfl, rfl, rfl, by decide +kernel, rfl, by decide +kernel, by decide +kernel⟩
  refine T.least_lack.ok sc (fun vs H Q E h => ?_) (fun cdv A outer s H vs Q E hr h => ?_)
  · obtain ⟨l, x, sx, low, m, rfl, _⟩ := h; rfl
  · obtain ⟨l, x, sx, low, m, rfl, ⟨th, hl, hT⟩, hN, k⟩ := h
    refine ⟨_, (pss_one (ps_ret (pe_callB (cr_min rfl) (by rfl) T.min (by decide +kernel) (pa_cons (pe_lc (te := tCall (spLack a wd) [] E0 (tCons (tVar 1) tNil)) (own := [("thread", 1)]) (g := gName 1) (by rfl) sc.nd (pi_list (pv 0)) (blkOk_by (own := [("thread", 1)]) (N := ["threads", "thread"]) (sc := defScope (top 79)) (by decide +kernel)) (fun _ _ _ _ _ => pg_name (i := 1) sc.nd rfl (Or.inl rfl)) (fun _ _ _ _ _ => pts_nil) (fun _ _ _ _ _ => (by exact (pe_call G_lack_of (hr.mono (by first | decide | omega)) rfl T.lack_of.mg T.lack_of.kp T.lack_of.b .nil pass0 (pa_cons (pv 1) pa_nil))))) pa_nil)))), ?_⟩
    walk_at "go"
    refine ⟨_, rfl, l, rfl, ⟨_, SqL.of hl⟩, fun D nD => ?_⟩
    have s1 := same_upd (o := .lst []) nD
    refine lc_list (K := K) (a := l) (xs := [.ref th]) (fun i G => Same H G ∧ G D = some (.lst (List.replicate i (.int (owedS wd sx : Int))))) ⟨s1, upd_same⟩ (fun i G _ h => SqL.of (h.1 _ _ hl)) (fun i y G hy h => ?_) (fun G h => ?_)
    · match i, hy with
      | 0, hy =>
        cases hy
        obtain ⟨s2, hD⟩ := h
        refine ⟨rfl, ?_⟩
        unfold tYes
        with_reducible refine L2.iteT ?_
        refine i_call ?_
        walk_at "go"
        refine ⟨th, x, sx, low, m, rfl, hT.same s2, hN.same s2, fun G2 s3 => ?_⟩
        refine ⟨_, s3 _ _ hD, (by show 0 < sizeLine; decide), fun b o e => ?_, upd_same⟩
        rw [upd_ne (ne_of_none e nD)]
        exact s3 _ _ (s2 _ _ e)
      | i + 1, hy => simp at hy
    · obtain ⟨s2, hD⟩ := h
      walk_at "go"
      refine ⟨D, [(owedS wd sx : Int)], rfl, SqL.of hD, Nat.one_pos, fun m hm _ => ?_⟩
      rw [List.mem_singleton.mp hm]
      exact k G s2
end
end Me
set_option maxHeartbeats 8000000
namespace Me
open PySem L2


/-- how first_end ends -/
def endE (a : Ad) (H : Hp) (Q : VK) (E : XK) : End3 → Prop
  | .fin u => ∀ H', Same H H' → Q (.int (u : Int)) H'
  | .bad i => ∀ H' d, Same H H' → H' d = none → E (.ref (a.C 1)) (some d) (upd H' d (.xd [("at", .int (i : Int))]))
  | .few n => ∀ H' d, Same H H' → H' d = none → E (.ref (a.C 2)) (some d) (upd H' d (.xd [("due", .int (n : Int))]))
theorem endE.same {a : Ad} {H H1 : Hp} {Q : VK} {E : XK} {r : End3} (h : endE a H Q E r) (s : Same H H1) : endE a H1 Q E r := by
  cases r with
  | fin u => exact fun H' s2 => h H' fun b o e => s2 _ _ (s _ _ e)
  | bad i => exact fun H' d s2 n => h H' d (fun b o e => s2 _ _ (s _ _ e)) n
  | few n => exact fun H' d s2 n => h H' d (fun b o e => s2 _ _ (s _ _ e)) n
section
variable {P : Program} {w : World} {K : PySem.W.Frag} {mg : Str → Option Value} {base : Heap} {a : Ad}
def spEnd (a : Ad) (wd : Option Nat) : Sp := fun vs H Q E => ∃ (x : Addr) (low : Int) (m : Nat) (t : Str), vs = [.ref x, .str t] ∧ NdAt a H x low m wd ∧ allB t.cps.toList ∧ okS wd (st0 m wd).1 (st0 m wd).2 ∧ (∀ u v c u' v', okS wd u v → feedN wd u v c = some (.run u' v') → okS wd u' v') ∧ endE a H Q E (endR wd (st0 m wd).1 (st0 m wd).2 0 t.cps.toList)
theorem ok_first_end (T : Txt P K mg a) (wd : Option Nat) : FnOk P w K mg base (L2.CX P w) 5 a.first_end.f a.first_end.fd ["node", "bits"] (spEnd a wd) := by
  have G_first_threads := ok_first_threads (P := P) (w := w) (base := base) T wd
  have G_fed_all := ok_fed_all (P := P) (w := w) (base := base) T wd
  have G_are_whole := ok_are_whole (P := P) (w := w) (base := base) T
  have G_least_lack := ok_least_lack (P := P) (w := w) (base := base) T wd
  have sc : FnScope ["node", "bits", "threads", "at", "bit"] ["node", "bits"] (defScope (top 101)) := ⟨rfl, rfl, rfl, by decide +kernel, rfl, by decide +kernel, by decide +kernel⟩
  refine T.first_end.okX sc (fun vs H Q E h => ?_) (fun cdv A outer s H vs Q E hr h => ?_)
  · obtain ⟨x, low, m, t, rfl, _⟩ := h; rfl
  · obtain ⟨x, low, m, t, rfl, hN, hb, h0, hstep, k⟩ := h
    have tk : Takes (cxOf (L2.CX P w) P w K mg base ["node", "bits", "threads", "at", "bit"] "first_end" (defScope (top 101)) a.first_end.f cdv A outer s H E) (fun cls d _ H => E cls d H) := takes_of rfl rfl rfl rfl
    refine ⟨_, (pss_cons (ps_set (i := 2) sc.nd rfl (by first | exact Or.inl rfl | exact Or.inr rfl) (pe_call G_first_threads (hr.mono (by first | decide | omega)) rfl T.first_threads.mg T.first_threads.kp T.first_threads.b .nil pass0 (pa_cons (pv 0) pa_nil)))
      (pss_cons (ps_for (passes_of rfl) rfl (pi_enumS rfl T.enumerate (pa_cons (pv 1) pa_nil)) (pg_tup (by rfl) (pgs_cons (pg_name (i := 3) sc.nd rfl (by first | exact Or.inl rfl | exact Or.inr rfl)) (pgs_cons (pg_name (i := 4) sc.nd rfl (by first | exact Or.inl rfl | exact Or.inr rfl)) pgs_nil)))
      (pss_cons (ps_set (i := 2) sc.nd rfl (by first | exact Or.inl rfl | exact Or.inr rfl) (pe_call G_fed_all (hr.mono (by first | decide | omega)) rfl T.fed_all.mg T.fed_all.kp T.fed_all.b .nil pass0 (pa_cons (pv 2) (pa_cons (pv 4) pa_nil))))
      (pss_cons (ps_if (pt_cmpR (op_eqL0 (Nat.lt_of_le_of_lt (Nat.le_add_right _ 64) hr.units)) (pv 2) (pe_lst pa_nil) (nomark _))
      (pss_one (ps_thr (T.er 1 (by decide)) rfl rfl rfl (ok_ini1 T) (hr.mono (by decide)) tk (pv 3) rfl))
      pss_nil)
      (pss_one (ps_if (pt_val (pe_call G_are_whole (hr.mono (by first | decide | omega)) rfl T.are_whole.mg T.are_whole.kp T.are_whole.b .nil pass0 (pa_cons (pv 2) pa_nil)))
      (pss_one (ps_ret (pe_op op_add (pv 3) pe_int)))
      pss_nil)))))
      (pss_one (ps_thr (T.er 2 (by decide)) rfl rfl rfl (ok_ini2 T) (hr.mono (by decide)) tk (pe_call G_least_lack (hr.mono (by decide)) rfl T.least_lack.mg T.least_lack.kp T.least_lack.b .nil pass0 (pa_cons (pv 2) pa_nil)) rfl)))), ?_⟩
    walk_at "go"
    refine ⟨x, low, m, rfl, hN, fun L H1 s1 hL => ?_⟩
    walk_at "go"
    refine ⟨_, rfl, t, rfl, ?_⟩
    refine for_enumS (fun i σ' G => ∃ L u v v3 v4, σ' = [some (.ref x), some (.str t), some (.ref L), v3, v4] ∧ Same H G ∧ ThsAt G L x (some (.run u v)) ∧ okS wd u v ∧ endR wd (st0 m wd).1 (st0 m wd).2 0 t.cps.toList = endR wd u v i (t.cps.toList.drop i)) ⟨L, _, _, none, none, rfl, s1, hL, h0, rfl⟩ (fun i c σ' G T0 hc h nT => ?_) (fun σ' G h => ?_)
    · obtain ⟨L2, u, v, v3, v4, rfl, s2, hL2, ok2, e⟩ := h
      have s3 := same_upd (o := .tup [.int (i : Nat), .str ⟨#[c]⟩]) nT
      have hci : t.cps.toList[i]? = some c := by rw [Array.getElem?_toList]; exact hc
      have hbc := hb c (List.mem_of_getElem? hci)
      have ec : (⟨#[c]⟩ : Str) = bitC (c == 49) := by rcases hbc with rfl | rfl <;> rfl
      have ed : t.cps.toList.drop i = c :: t.cps.toList.drop (i + 1) := by
        obtain ⟨lt, e1⟩ := List.getElem?_eq_some_iff.mp hci
        rw [← e1]; exact List.drop_eq_getElem_cons lt
      rw [ed] at e
      refine ⟨T0, _, rfl, SqT.of upd_same, rfl, ?_⟩
      refine ⟨_, _, rfl, Me.i_gname ⟨_, _, rfl, Me.i_gname ⟨rfl, ?_⟩⟩⟩
      have s23 : Same H (upd G T0 (.tup [.int (i : Nat), .str ⟨#[c]⟩])) := fun b o eb => s3 _ _ (s2 _ _ eb)
      generalize upd G T0 (.tup [.int (i : Nat), .str ⟨#[c]⟩]) = G1 at s3 s23 ⊢
      walk_at "go"
      refine ⟨L2, x, low, m, u, v, (c == 49), by rw [ec]; rfl, hL2.same s3, hN.same s23, ok2, fun L3 H3 s4 hL3 => ?_⟩
      have s34 : Same H H3 := fun b o eb => s4 _ _ (s23 _ _ eb)
      walk_at "go"
      rename_i eb neb
      have s5 := same_upd (o := .lst []) neb
      have s35 : Same H (upd H3 eb (.lst [])) := fun b o e => s5 _ _ (s34 _ _ e)
      have hE := upd_same (H := H3) (a := eb) (o := .lst [])
      have hL4 := hL3.same s5
      generalize upd H3 eb (.lst []) = H4 at s5 s35 hE hL4 ⊢
      cases ef : feedN wd u v (c == 49) with
      | none =>
        rw [ef] at hL4
        have hL5 : H4 L3 = some (.lst []) := hL4
        refine ⟨L3, eb, [], rfl, rfl, SqL.of hL5, SqL.of hE, _, rfl, i_yes rfl ?_⟩
        refine ⟨_, rfl, thr_ok fun d nd => ?_⟩
        have e2 : endR wd u v i (c :: t.cps.toList.drop (i + 1)) = .bad i := by rw [endR, ef]
        rw [e2] at e
        rw [e] at k
        exact k _ d s35 nd
      | some sx =>
        rw [ef] at hL4
        obtain ⟨th, hl5, hT⟩ := id hL4
        refine ⟨L3, eb, [.ref th], rfl, rfl, SqL.of hl5, SqL.of hE, _, rfl, i_no rfl ?_⟩
        walk_at "go"
        refine ⟨L3, x, sx, rfl, hL4, fun H5 s6 => ?_⟩
        refine ⟨_, rfl, ?_⟩
        have s36 : Same H H5 := fun b o e => s6 _ _ (s35 _ _ e)
        cases sx with
        | whole =>
          refine i_yes rfl ?_
          walk_at "go"
          have e2 : endR wd u v i (c :: t.cps.toList.drop (i + 1)) = .fin (i + 1) := by rw [endR, ef]
          rw [e2] at e
          rw [e] at k
          exact k H5 s36
        | run u' v' =>
          refine i_no rfl ?_
          walk_at "go"
          have e2 : endR wd u v i (c :: t.cps.toList.drop (i + 1)) = endR wd u' v' (i + 1) (t.cps.toList.drop (i + 1)) := by rw [endR, ef]
          exact ⟨L3, u', v', _, _, rfl, s36, hL4.same s6, hstep _ _ _ _ _ ok2 ef, by rw [e, e2]⟩
    · obtain ⟨L2, u, v, v3, v4, rfl, s2, hL2, ok2, e⟩ := h
      dsimp only
      refine i_call ?_
      walk_at "go"
      refine ⟨L2, x, _, low, m, rfl, hL2, hN.same s2, fun G2 s3 => ?_⟩
      refine thr_ok fun d nd => ?_
      rw [List.drop_eq_nil_of_le (by simp)] at e
      have e2 : endR wd u v t.cps.size [] = .few (owedN wd u v) := rfl
      rw [e2] at e
      rw [e] at k
      exact k G2 d (fun b o e => s3 _ _ (s2 _ _ e)) nd
end
end Me
set_option maxHeartbeats 8000000
namespace Me
open PySem L2


theorem pow_le {a b : Nat} (h : a ≤ b) : 2 ^ a ≤ 2 ^ b := Nat.pow_le_pow_right (by decide) h
theorem okS_st0 {m : Nat} {wd : Option Nat} (h1 : 2 ≤ m) (h2 : m ≤ 2 ^ 60) (h3 : ∀ W, wd = some W → 1 ≤ W ∧ W ≤ 60 ∧ m ≤ 2 ^ W) : okS wd (st0 m wd).1 (st0 m wd).2 := by
  obtain ⟨f1, f2, f3, f4⟩ := log2_facts h1 h2
  cases wd with
  | none =>
    have g := (short_facts f1 f2).2
    have g2 := pow_le (show m.log2 ≤ 61 by omega)
    exact ⟨by show m.log2 ≤ 61; omega, by show shortN m ≤ _; omega, fun z => absurd rfl z⟩
  | some W =>
    obtain ⟨w1, w2, w3⟩ := h3 W rfl
    have g2 := pow_le (show W ≤ 61 by omega)
    exact ⟨by show W ≤ 61; omega, by show m - 1 ≤ _; omega, fun _ => w1⟩
theorem okS_step {wd : Option Nat} {u v u' v' : Nat} {c : Bool} (h : okS wd u v) (e : feedN wd u v c = some (.run u' v')) : okS wd u' v' := by
  obtain ⟨h1, h2, h3⟩ := h
  cases wd with
  | none =>
    have e : feedT u v c = some (.run u' v') := e
    unfold feedT at e
    generalize 2 ^ (u - 1) = hh at e
    have le : (if c = true then v - hh else min v hh) ≤ v := by cases c <;> simp <;> omega
    generalize (if c = true then v - hh else min v hh) = v2 at e le
    by_cases z : u = 0
    · rw [if_pos z] at e; cases e
    · rw [if_neg z] at e
      by_cases y : u = 1 ∧ 0 < v2
      · rw [if_pos y] at e; cases e
      · rw [if_neg y] at e
        injection e with e
        injection e with e1 e2
        exact ⟨by omega, by omega, fun z => absurd rfl z⟩
  | some W =>
    have e : feedW u v c = some (.run u' v') := e
    have h3 := h3 (fun z => by cases z)
    unfold feedW at e
    generalize 2 ^ (u - 1) = hh at e
    have le : (if c = true then v - hh else min v (hh - 1)) ≤ v := by cases c <;> simp <;> omega
    generalize (if c = true then v - hh else min v (hh - 1)) = v2 at e le
    by_cases z : c = true ∧ v < hh
    · rw [if_pos z] at e; cases e
    · rw [if_neg z] at e
      by_cases y : u = 1
      · rw [if_pos y] at e; cases e
      · rw [if_neg y] at e
        injection e with e
        injection e with e1 e2
        exact ⟨by omega, by omega, fun _ => by omega⟩
theorem end_fin {m u : Nat} {wd : Option Nat} {l : List Nat} (h1 : 2 ≤ m) (h2 : m ≤ 2 ^ 60) (h3 : ∀ W, wd = some W → 1 ≤ W ∧ W ≤ 60 ∧ m ≤ 2 ^ W) (hl : allB l) (e : endR wd (st0 m wd).1 (st0 m wd).2 0 l = .fin u) : u ≤ l.length ∧ okLen m wd l := by
  obtain ⟨f1, f2, f3, f4⟩ := log2_facts h1 h2
  cases wd with
  | none =>
    rw [tight_end f1 f2 f3 hl] at e
    unfold tightEnd at e
    split at e
    · cases e
    · split at e
      · injection e with e
        exact ⟨by omega, by omega, fun z => by omega⟩
      · split at e
        · cases e
        · injection e with e
          exact ⟨by omega, by omega, fun z => by omega⟩
  | some W =>
    obtain ⟨w1, w2, w3⟩ := h3 W rfl
    rcases wide_end h1 w1 w3 hl with ⟨i, _, _, _, _, i5⟩ | ⟨_, i2⟩
    · rw [i5] at e; cases e
    · rw [i2] at e
      split at e
      · cases e
      · injection e with e
        exact ⟨by omega, by show W ≤ _; omega⟩
theorem allB_bits {z : Str} (h : allB z.cps.toList) : bitsS z = true := by
  unfold bitsS
  refine List.all_eq_true.mpr fun c hc => ?_
  rcases h c hc with rfl | rfl <;> rfl
section
variable {P : Program} {w : World} {K : PySem.W.Frag} {mg : Str → Option Value} {base : Heap} {a : Ad}
def rfE (a : Ad) (H : Hp) (Q : VK) (E : XK) (i : Int) : End3 → Prop
  | .fin u => ∀ H' q, Same H H' → H' q = some (.tup [.int i, .int (u : Int)]) → Q (.ref q) H'
  | .bad i => ∀ H' d, Same H H' → H' d = none → E (.ref (a.C 1)) (some d) (upd H' d (.xd [("at", .int (i : Int))]))
  | .few n => ∀ H' d, Same H H' → H' d = none → E (.ref (a.C 2)) (some d) (upd H' d (.xd [("due", .int (n : Int))]))
def spRF (a : Ad) : Sp := fun vs H Q E => ∃ (e : Addr) (t z : Str) (low : Int) (m : Nat) (wd : Option Nat), vs = [.ref e, .str t, .non] ∧ EdAt a H e z low m wd ∧ allB t.cps.toList ∧ t.length ≤ 100 ∧ rfE a H Q E (low + (intN m wd t.cps.toList : Nat)) (endR wd (st0 m wd).1 (st0 m wd).2 0 t.cps.toList)
theorem ok_read_first (T : Txt P K mg a) : FnOk P w K mg base (L2.CX P w) 6 a.read_first.f a.read_first.fd ["edition", "bits", "kind"] (spRF a) := by
  have G_kind_name := ok_kind_name (P := P) (w := w) (base := base) T
  have G_is_bits : FnOk P w K mg base CX0 1 a.is_bits.f a.is_bits.fd ["thing"] spBits := ok_bits T
  have G_parse := ok_parse_init (P := P) (w := w) (base := base) T
  have G_value := ok_value (P := P) (w := w) (base := base) T
  have sc : FnScope ["edition", "bits", "kind", "name", "used", "parse"] ["edition", "bits", "kind"] (defScope (top 100)) := ⟨rfl, rfl, rfl, by decide +kernel, rfl, by decide +kernel, by decide +kernel⟩
  refine okXN T.read_first sc (fun vs H Q E h => ?_) (fun cdv A outer s H vs Q E hr h => ?_)
  · obtain ⟨e, t, z, low, m, wd, rfl, _⟩ := h; rfl
  · obtain ⟨e, t, z, low, m, wd, rfl, ED, hb, ht, k⟩ := h
    have G_first_end := ok_first_end (P := P) (w := w) (base := base) T wd
    have tk : Takes (cxOf (L2.CX P w) P w K mg base ["edition", "bits", "kind", "name", "used", "parse"] "read_first" (defScope (top 100)) a.read_first.f cdv A outer s H E) (fun cls d _ H => E cls d H) := takes_of rfl rfl rfl rfl
    have clE := T.cl_Edition
    have noE : ∀ f ∈ fields, NoAttr K a.c_Edition f := T.no_Edition
    have clP := T.cl_Plan
    have noP : ∀ f ∈ fields, NoAttr K a.c_Plan f := T.no_Plan
    refine ⟨_, (pss_cons (ps_set (i := 3) sc.nd rfl (by first | exact Or.inl rfl | exact Or.inr rfl) (pe_call G_kind_name (hr.mono (by first | decide | omega)) rfl T.kind_name.mg T.kind_name.kp T.kind_name.b .nil pass0 (pa_cons (pv 0) (pa_cons (pv 2) pa_nil))))
      (pss_cons (ps_if (pt_not (pt_val (pe_call G_is_bits (hr.mono (by first | decide | omega)) rfl T.is_bits.mg T.is_bits.kp T.is_bits.b .nil pass0 (pa_cons (pv 1) pa_nil))))
      (pss_one ps_never)
      pss_nil)
      (pss_cons (ps_set (i := 4) sc.nd rfl (by first | exact Or.inl rfl | exact Or.inr rfl) (pe_call G_first_end (hr.mono (by first | decide | omega)) rfl T.first_end.mg T.first_end.kp T.first_end.b .nil (passes_call tk (fun _ _ _ _ h => h)) (pa_cons (pe_dget (hu_of hr) (pe_fld (pe_fld (pv 0) rfl) rfl) (pv 3) (fun _ _ => rfl)) (pa_cons (pv 1) pa_nil))))
      (pss_cons (ps_set (i := 5) sc.nd rfl (by first | exact Or.inl rfl | exact Or.inr rfl) (pe_make T.mk_Parse G_parse (hr.mono (by decide)) rfl T.Parse T.b_m_Parse_init .nil pass0 (pa_cons (pe_fld (pv 0) rfl) (pa_cons (pv 1) pa_nil))))
      (pss_one (ps_ret (pe_tup (pa_cons (pe_meth (pv 5) T.cl_Parse T.me_m_Parse_value G_value (hr.mono (by first | decide | omega)) T.b_m_Parse_value .nil pass0 (pa_cons (pe_dget (hu_of hr) (pe_fld (pe_fld (pv 0) rfl) rfl) (pv 3) (fun _ _ => rfl)) pa_nil)) (pa_cons (pv 4) pa_nil))))))))), ?_⟩
    walk_at "go"
    refine ⟨e, z, low, m, wd, rfl, ED, ?_⟩
    obtain ⟨dx, d, p, n, x, he, PL⟩ := ED
    obtain ⟨⟨pdx, c, st, ct, nd, sh, hp, hn⟩, hd, N, X⟩ := PL
    walk_at "go"
    refine ⟨.str t, rfl, .str _, (fun z e => by cases e; omega), _, rfl, i_no (by show (!bitsS t) = false; rw [allB_bits hb]; rfl) ?_⟩
    walk_at "go"
    refine ⟨_, rfl, e, _, dx, _, .ref p, rfl, he, clE, noE _ (by decide), rfl, ?_⟩
    refine ⟨p, _, pdx, _, .ref nd, rfl, hp, clP, noP _ (by decide), rfl, ?_⟩
    refine ⟨_, rfl, nd, .ref x, rfl, .inl ⟨_, .inr z, .inl hn, rfl, val_one.symm⟩, ?_⟩
    walk_at "go"
    refine ⟨x, low, m, t, rfl, X, hb, okS_st0 N.lo N.hi N.wd, fun _ _ _ _ _ h e => okS_step h e, ?_⟩
    cases er : endR wd (st0 m wd).1 (st0 m wd).2 0 t.cps.toList with
    | few j => rw [er] at k; exact k
    | bad i => rw [er] at k; exact k
    | fin u =>
      rw [er] at k
      obtain ⟨u1, ol⟩ := end_fin N.lo N.hi N.wd hb er
      intro H1 s1
      walk_at "go"
      refine i_make ?_
      walk_at "go"
      refine i_fld1 rfl (s1 _ _ he) clE (noE _ (by decide)) rfl ?_
      walk_at "go"
      intro r rdx nr nrdx ne
      have s2 : Same H1 (upd (upd H1 rdx (.own r)) r (.ins a.c_Parse rdx [])) := fun b o eb => by
        rw [upd_ne (ne_of_none eb nr), upd_ne (ne_of_none eb nrdx)]; exact eb
      refine ⟨r, rdx, p, t, rfl, upd_same, fun H2 k2 PA => ⟨rfl, ?_⟩⟩
      have s12 : Same H1 H2 := fun b o eb => k2 b o (ne_of_none eb nr) (s2 b o eb)
      have s02 : Same H H2 := fun b o eb => s12 _ _ (s1 _ _ eb)
      walk_at "go"
      refine i_meth ?_
      walk_at "go"
      have PA0 := PA
      obtain ⟨dx3, p3, l3, hr3⟩ := PA0
      refine ⟨r, dx3, _, rfl, hr3, rfl, ?_⟩
      walk_at "go"
      refine ⟨_, rfl, e, _, dx, _, .ref p, rfl, s02 _ _ he, clE, noE _ (by decide), rfl, ?_⟩
      refine ⟨p, _, pdx, _, .ref d, rfl, s02 _ _ hp, clP, noP _ (by decide), rfl, ?_⟩
      refine ⟨_, rfl, d, .ref n, rfl, .inl ⟨_, .inr z, .inl (s02 _ _ hd), rfl, val_one.symm⟩, ?_⟩
      refine i_nil ⟨r, n, t, low, m, wd, rfl, PA, N.same s02, ht, hb, ol, fun H3 k3 => ?_⟩
      walk_at "go"
      rename_i q nq
      have s3 := same_upd (o := .tup [.int (low + (intN m wd t.cps.toList : Nat)), .int (u : Int)]) nq
      refine k _ q (fun b o eb => s3 _ _ (k3 _ _ (ne_of_none (s1 _ _ eb) nr) (s02 _ _ eb))) upd_same
def rdE (a : Ad) (H : Hp) (Q : VK) (E : XK) (low : Int) : Res → Prop
  | .read n => ∀ H', Same H H' → Q (.int (low + (n : Nat))) H'
  | .bad i => ∀ H' d, Same H H' → H' d = none → E (.ref (a.C 1)) (some d) (upd H' d (.xd [("at", .int (i : Int))]))
  | .few n => ∀ H' d, Same H H' → H' d = none → E (.ref (a.C 2)) (some d) (upd H' d (.xd [("due", .int (n : Int))]))
  | .left i => ∀ H' d, Same H H' → H' d = none → E (.ref (a.C 3)) (some d) (upd H' d (.xd [("at", .int (i : Int))]))
def spRead (a : Ad) : Sp := fun vs H Q E => ∃ (e : Addr) (t z : Str) (low : Int) (m : Nat) (wd : Option Nat), vs = [.ref e, .str t, .non] ∧ EdAt a H e z low m wd ∧ allB t.cps.toList ∧ t.length ≤ 100 ∧ rdE a H Q E low (outR m wd t.cps.toList)
theorem ok_read (T : Txt P K mg a) : FnOk P w K mg base (L2.CX P w) 7 a.read.f a.read.fd ["edition", "bits", "kind"] (spRead a) := by
  have G_read_first := ok_read_first (P := P) (w := w) (base := base) T
  have sc : FnScope ["edition", "bits", "kind", "value", "used"] ["edition", "bits", "kind"] (defScope (top 99)) := ⟨rfl, rfl, rfl, by decide +kernel, rfl, by decide +kernel, by decide +kernel⟩
  refine okXN T.read sc (fun vs H Q E h => ?_) (fun cdv A outer s H vs Q E hr h => ?_)
  · obtain ⟨e, t, z, low, m, wd, rfl, _⟩ := h; rfl
  · obtain ⟨e, t, z, low, m, wd, rfl, ED, hb, ht, k⟩ := h
    have tk : Takes (cxOf (L2.CX P w) P w K mg base ["edition", "bits", "kind", "value", "used"] "read" (defScope (top 99)) a.read.f cdv A outer s H E) (fun cls d _ H => E cls d H) := takes_of rfl rfl rfl rfl
    have ln : t.cps.toList.length = t.length := by simp [Str.length]
    refine ⟨_, (pss_cons (ps_asg (pe_call G_read_first (hr.mono (by first | decide | omega)) rfl T.read_first.mg T.read_first.kp T.read_first.b .nil (passes_call tk (fun _ _ _ _ h => h)) (pa_cons (pv 0) (pa_cons (pv 1) (pa_cons (pv 2) pa_nil)))) (pg_tup (by rfl) (pgs_cons (pg_name (i := 3) sc.nd rfl (by first | exact Or.inl rfl | exact Or.inr rfl)) (pgs_cons (pg_name (i := 4) sc.nd rfl (by first | exact Or.inl rfl | exact Or.inr rfl)) pgs_nil))))
      (pss_cons (ps_if (pt_cmpR op_lt (pv 4) (pe_callB call_len_str (by rfl) T.len PySem.boot_len (pa_cons (pv 1) pa_nil)) (nomark _))
      (pss_one (ps_thr (T.er 3 (by decide)) rfl rfl rfl (ok_ini3 T) (hr.mono (by decide)) tk (pv 4) rfl))
      pss_nil)
      (pss_one (ps_ret (pv 3))))), ?_⟩
    walk_at "go"
    refine ⟨e, t, z, low, m, wd, rfl, ED, hb, ht, ?_⟩
    unfold outR at k
    cases er : endR wd (st0 m wd).1 (st0 m wd).2 0 t.cps.toList with
    | few j => rw [er] at k; exact k
    | bad i => rw [er] at k; exact k
    | fin u =>
      rw [er] at k
      dsimp only at k
      intro H1 q s1 hq
      refine ⟨q, _, rfl, SqT.of hq, rfl, ?_⟩
      refine ⟨_, _, rfl, Me.i_gname ⟨_, _, rfl, Me.i_gname ⟨rfl, ?_⟩⟩⟩
      walk_at "go"
      refine ⟨_, rfl, Nat.le_trans ht (show 100 ≤ sizeLine by decide), _, _, rfl, rfl, _, rfl, ?_⟩
      by_cases lt : u < t.cps.toList.length
      · rw [if_pos lt] at k
        refine i_yes (decide_eq_true (by omega)) ?_
        refine ⟨_, rfl, thr_ok fun d nd => k H1 d s1 nd⟩
      · rw [if_neg lt] at k
        refine i_no (decide_eq_false (by omega)) ?_
        walk_at "go"
        exact k H1 s1
end
end Me
set_option maxHeartbeats 8000000
namespace Me
open PySem L2
theorem at_ints {ns : List Int} {i : Int} (h0 : 0 ≤ i) (h1 : i < ((ns.map V.int).length : Int)) : ∃ z, atI (ns.map V.int) i = some (V.int z) := by
  obtain ⟨j, rfl⟩ := Int.eq_ofNat_of_zero_le h0
  have hj : j < ns.length := by rw [List.length_map] at h1; omega
  exact ⟨ns[j], atI_nat (by rw [List.getElem?_map, List.getElem?_eq_getElem hj]; rfl)⟩
theorem st_upd {H : Hp} {p L : Addr} {ns : List Int} {i b c : Int} {o : HO} (e : o = .lst [.ref L, .int i, .int b, .int c]) (n : L ≠ p) (hL : H L = some (.lst (ns.map V.int))) (hn : ns.length ≤ 63) (hi : 0 ≤ i) (hb : 0 ≤ b) (hc : 0 ≤ c) (hd : c < 2147483647) : StAt (upd H p o) p L :=
  ⟨ns, i, b, c, by rw [upd_same, e], by rw [upd_ne n]; exact hL, hn, hi, hb, hc, hd⟩
theorem fm {x m : Int} (h : 0 < m) : 0 ≤ x.fmod m ∧ x.fmod m < m := by
  rw [Int.fmod_eq_emod_of_nonneg _ (by omega)]
  exact ⟨Int.emod_nonneg _ (by omega), Int.emod_lt_of_pos _ h⟩
theorem fd {x m : Int} (hx : 0 ≤ x) (h : 0 < m) : 0 ≤ x.fdiv m := by
  rw [Int.fdiv_eq_ediv_of_nonneg _ (by omega)]
  exact Int.ediv_nonneg hx (by omega)
theorem Went.rfl' {p : Addr} {H : Hp} (h : StOk H p) : Went p H H := ⟨h, fun _ _ _ e => e, fun _ e => e⟩
theorem StAt.keep {p L : Addr} {H H' : Hp} (h : StAt H p L) (k : Same H H') : StAt H' p L := by
  obtain ⟨ns, i, b, c, h1, h2, h3⟩ := h
  exact ⟨ns, i, b, c, k _ _ h1, k _ _ h2, h3⟩
theorem StOk.keep {p : Addr} {H H' : Hp} (h : StOk H p) (k : Same H H') : StOk H' p := h.imp fun _ q => q.keep k
theorem Went.new {p q : Addr} {H H' : Hp} {o : HO} (w : Went p H H') (n : H' q = none) : Went p H (upd H' q o) := by
  have k : Same H' (upd H' q o) := fun b u e => by rw [upd_ne (ne_of_none e n)]; exact e
  exact ⟨w.1.keep k, fun a u ne e => k _ _ (w.2.1 a u ne e), fun L e => (w.2.2 L e).keep k⟩
/-- an object that was not there at first is written -/
theorem Went.wr {p q : Addr} {H H' : Hp} {o : HO} (S : StOk H p) (w : Went p H H') (n : H q = none) (nq : q ≠ p) : Went p H (upd H' q o) := by
  obtain ⟨L, hL⟩ := S
  have h' := w.2.2 L hL
  have nL : L ≠ q := by obtain ⟨_, _, _, _, _, e, _⟩ := hL; exact ne_of_none e n
  refine went_mk hL ?_ fun a u ne e => by rw [upd_ne (ne_of_none e n)]; exact w.2.1 a u ne e
  obtain ⟨ns, i, b, c, h1, h2, h3⟩ := h'
  exact ⟨ns, i, b, c, by rw [upd_ne nq.symm]; exact h1, by rw [upd_ne nL]; exact h2, h3⟩
theorem StOk.ne {H : Hp} {p q : Addr} (S : StOk H p) (n : H q = none) : q ≠ p := by
  obtain ⟨L, _, _, _, _, e, _⟩ := S
  exact fun z => by rw [z, e] at n; cases n
theorem Went.none {p q : Addr} {H H' : Hp} (w : Went p H H') (n : H' q = none) (nq : q ≠ p) : H q = none := by
  cases e : H q with
  | none => rfl
  | some o => rw [w.2.1 q o nq e] at n; cases n
theorem at_mem {xs : List V} {i : Int} (h0 : 0 ≤ i) (h1 : i < (xs.length : Int)) : ∃ v, atI xs i = some v ∧ v ∈ xs := by
  obtain ⟨j, rfl⟩ := Int.eq_ofNat_of_zero_le h0
  have hj : j < xs.length := by omega
  exact ⟨xs[j], atI_nat (List.getElem?_eq_getElem hj), List.getElem_mem hj⟩


section
variable {P : Program} {w : World} {K : PySem.W.Frag} {mg : Str → Option Value} {base : Heap} {a : Ad}
def spPull : Sp := fun vs H Q _ => ∃ (p : Addr) (m : Int), vs = [.ref p, .int m] ∧ StOk H p ∧ 0 < m ∧ m ≤ 1000000000000000000000000000000 ∧ ∀ (r : Int) (H' : Hp), 0 ≤ r → r < m → Went p H H' → Q (.int r) H'
theorem ok_pull (T : Txt P K mg a) : FnOk P w K mg base CX0 1 a._law_pull.f a._law_pull.fd ["_law_state", "_law_many"] spPull := by
  have sc : FnScope ["_law_state", "_law_many", "_law_cell", "_law_number"] ["_law_state", "_law_many"] (defScope (top 107)) := ⟨rfl, rfl, rfl, by decide +kernel, rfl, by decide +kernel, by decide +kernel⟩
  refine T._law_pull.ok sc (fun vs H Q E h => ?_) (fun cdv A outer s H vs Q E hr h => ?_)
  · obtain ⟨p, m, rfl, _⟩ := h
    rfl
  · obtain ⟨p, m, rfl, S, hm0, hm1, k⟩ := h
    have S0 := S
    obtain ⟨L, SL⟩ := S
    obtain ⟨ns, i, b, c, hp, hL, hn, hi, hb, hc0, hc1⟩ := id SL
    refine ⟨_, (pss_cons (ps_if (PW.pt (pw_and (pt_cmpR op_eq (pe_ix ix_list (pv 0) pe_int (fun _ _ => rfl)) pe_int (nomark _)) (pw_and1 (pt_cmpR op_lt (pe_ix ix_list (pv 0) pe_int (fun _ _ => rfl)) (pe_callB call_len_seq (by rfl) T.len PySem.boot_len (pa_cons (pe_ix ix_list (pv 0) pe_int (fun _ _ => rfl)) pa_nil)) (nomark _)))))
      (pss_cons (ps_set (i := 2) sc.nd rfl (by first | exact Or.inl rfl | exact Or.inr rfl) (pe_ix ix_list (pe_ix ix_list (pv 0) pe_int (fun _ _ => rfl)) (pe_ix ix_list (pv 0) pe_int (fun _ _ => rfl)) (fun _ _ => rfl)))
      (pss_cons (ps_asg (pe_op op_add (pe_ix ix_list (pv 0) pe_int (fun _ _ => rfl)) pe_int) (pg_sub (pv 0) pe_int set_list))
      (pss_one (ps_if (pt_cmpR op_ge (pv 2) (pe_op op_pow pe_int pe_int) (nomark _))
      (pss_one (ps_asg (pv 2) (pg_sub (pv 0) pe_int set_list)))
      (pss_one (ps_asg (pe_op op_mod (pe_callTy call_int1 (by rfl) T.int (by decide +kernel) (pa_cons (pe_op op_add (pe_op op_add (pe_op op_mul (pe_ix ix_list (pv 0) pe_int (fun _ _ => rfl)) pe_int) (pe_op op_mod (pe_callTy call_int1 (by rfl) T.int (by decide +kernel) (pa_cons (pv 2) pa_nil)) pe_int)) pe_int) pa_nil)) pe_int) (pg_sub (pv 0) pe_int set_list)))))))
      pss_nil)
      (pss_cons (ps_if (pt_cmpR op_gt (pe_ix ix_list (pv 0) pe_int (fun _ _ => rfl)) pe_int (nomark _))
      (pss_cons (ps_set (i := 3) sc.nd rfl (by first | exact Or.inl rfl | exact Or.inr rfl) (pe_op op_modN (pe_callTy call_int1 (by rfl) T.int (by decide +kernel) (pa_cons (pe_ix ix_list (pv 0) pe_int (fun _ _ => rfl)) pa_nil)) (pv 1)))
      (pss_cons (ps_asg (pe_op op_fdivW (pe_ix ix_list (pv 0) pe_int (fun _ _ => rfl)) (pv 1)) (pg_sub (pv 0) pe_int set_list))
      (pss_one (ps_ret (pv 3)))))
      pss_nil)
      (pss_cons (ps_asg (pe_op op_mod (pe_callTy call_int1 (by rfl) T.int (by decide +kernel) (pa_cons (pe_op op_add (pe_op op_mul (pe_ix ix_list (pv 0) pe_int (fun _ _ => rfl)) pe_int) pe_int) pa_nil)) pe_int) (pg_sub (pv 0) pe_int set_list))
      (pss_cons (ps_set (i := 3) sc.nd rfl (by first | exact Or.inl rfl | exact Or.inr rfl) (pe_op op_mod (pe_callTy call_int1 (by rfl) T.int (by decide +kernel) (pa_cons (pe_op op_add (pe_op op_mul (pe_ix ix_list (pv 0) pe_int (fun _ _ => rfl)) pe_int) (pe_op op_fdiv (pe_ix ix_list (pv 0) pe_int (fun _ _ => rfl)) pe_int)) pa_nil)) pe_int))
      (pss_one (ps_ret (pe_op op_modN (pe_callTy call_int1 (by rfl) T.int (by decide +kernel) (pa_cons (pe_op op_fdiv (pv 3) pe_int) pa_nil)) (pv 1)))))))), ?_⟩
    have nL : L ≠ p := ne_of hL hp (by intro z; injection z with z; cases ns <;> cases z)
    have nL' : p ≠ L := nL.symm
    have hmn : 0 < m ∧ m.natAbs.log2 < 9000 := wide_div (i := 0) hm0 (b := 100) (Nat.lt_of_le_of_lt (show m.natAbs ≤ 1000000000000000000000000000000 by omega) (by decide)) (by decide) (by decide)
    have hmz : m ≠ 0 := by omega
    walk_at "go"
    refine i_itei (fun hb0 => ?_) (fun hb0 => ?_)
    · walk_at "go"
      refine i_itd (fun hlt => ?_) (fun hlt => ?_)
      · obtain ⟨z, hz⟩ := at_ints hi hlt
        walk_at "go"
        refine i_ixl hL hz ?_
        walk_at "go"
        have e18 : (10 : Int) ^ Int.toNat 18 = 1000000000000000000 := by decide
        refine i_itd (fun hz => ?_) (fun hz => ?_)
        · rw [e18] at hz
          walk_at "go"
          refine i_itd (fun h1 => ?_) (fun h1 => ?_)
          · walk_at "go"
            refine k _ _ (fm hm0).1 (fm hm0).2 (went_mk SL (st_upd (i := i + 1) (b := z / m) (c := c) rfl nL (by walk_at "hp") hn (by omega) (Int.ediv_nonneg (by omega) (by omega)) hc0 hc1) fun a o n h => by simp only [upd_ne n]; exact h)
          · exact absurd (by omega : 0 < z) h1
        · walk_at "go"
          refine i_itd (fun h1 => ?_) (fun h1 => ?_)
          · exact absurd h1 (by omega)
          · walk_at "go"
            refine k _ _ (fm hm0).1 (fm hm0).2 (went_mk SL (st_upd (i := i + 1) (b := b) rfl nL (by walk_at "hp") hn (by omega) hb (by omega) (by omega)) fun a o n h => by simp only [upd_ne n]; exact h)
      · walk_at "go"
        refine i_itd (fun h1 => ?_) (fun h1 => ?_)
        · exact absurd h1 (by omega)
        · walk_at "go"
          refine k _ _ (fm hm0).1 (fm hm0).2 (went_mk SL (st_upd (i := i) (b := b) rfl nL (by walk_at "hp") hn (by omega) hb (by omega) (by omega)) fun a o n h => by simp only [upd_ne n]; exact h)
    · walk_at "go"
      refine i_itd (fun h1 => ?_) (fun h1 => ?_)
      · walk_at "go"
        refine k _ _ (fm hm0).1 (fm hm0).2 (went_mk SL (st_upd (i := i) (b := b / m) (c := c) rfl nL (by walk_at "hp") hn (by omega) (Int.ediv_nonneg (by omega) (by omega)) hc0 hc1) fun a o n h => by simp only [upd_ne n]; exact h)
      · exact absurd (by omega : 0 < b) h1
def spStart (K : PySem.W.Frag) : Sp := fun vs H Q _ => ∃ (s : Addr) (ns : List Int), vs = [.ref s] ∧ SqL K H s (ns.map V.int) ∧ ns.length ≤ 63 ∧ ∀ (p : Addr) (H' : Hp), H p = none → StOk H' p → Same H H' → Q (.ref p) H'
theorem ok_start (T : Txt P K mg a) : FnOk P w K mg base CX0 1 a._law_start.f a._law_start.fd ["_law_script"] (spStart K) := by
  have sc : FnScope ["_law_script"] ["_law_script"] (defScope (top 106)) := ⟨rfl, rfl, rfl, by decide +kernel, rfl, by decide +kernel, by decide +kernel⟩
  refine T._law_start.ok sc (fun vs H Q E h => ?_) (fun cdv A outer s H vs Q E hr h => ?_)
  · obtain ⟨p, m, rfl, _⟩ := h
    rfl
  · obtain ⟨sa, ns, rfl, hS, hn, k⟩ := h
    refine ⟨_, (pss_one (ps_ret (pe_lst (pa_cons (pe_callTy call_list_of (by rfl) T.list (by decide +kernel) (pa_cons (pv 0) pa_nil)) (pa_cons pe_int (pa_cons pe_int (pa_cons pe_int pa_nil))))))), ?_⟩
    walk_at "go"
    refine ⟨sa, _, rfl, .inl hS, fun L nL => ?_⟩
    walk_at "go"
    rename_i p np
    obtain ⟨npL, npH⟩ := upd_none np
    refine k p _ npH ⟨L, ns, 0, 0, 1234577, upd_same, ?_, hn, by omega, by omega, by omega, by omega⟩ fun b o e => ?_
    · walk_at "hp"
    · rw [upd_ne (ne_of_none e npH), upd_ne (ne_of_none e nL)]; exact e
def spBig : Sp := fun vs H Q _ => ∃ (p : Addr) (m : Int), vs = [.ref p, .int m] ∧ StOk H p ∧ 0 < m ∧ ∀ (r : Int) (H' : Hp), 0 ≤ r → r < m → Went p H H' → Q (.int r) H'
theorem ok_big (T : Txt P K mg a) : FnOk P w K mg base CX0 2 a._law_big.f a._law_big.fd ["_law_state", "_law_many"] spBig := by
  have G__law_pull : FnOk P w K mg base CX0 1 a._law_pull.f a._law_pull.fd ["_law_state", "_law_many"] spPull := ok_pull T
  have sc : FnScope ["_law_state", "_law_many", "_law_number", "_law_k"] ["_law_state", "_law_many"] (defScope (top 108)) := ⟨rfl, rfl, rfl, by decide +kernel, rfl, by decide +kernel, by decide +kernel⟩
  refine T._law_big.ok sc (fun vs H Q E h => ?_) (fun cdv A outer s H vs Q E hr h => ?_)
  · obtain ⟨p, m, rfl, _⟩ := h
    rfl
  · obtain ⟨p, m, rfl, S, hm0, k⟩ := h
    refine ⟨_, (pss_cons (ps_set (i := 2) sc.nd rfl (by first | exact Or.inl rfl | exact Or.inr rfl) pe_int)
      (pss_cons (ps_for PassesOwn.never rfl (pi_range1 rfl T.range (pa_cons pe_int pa_nil)) (pg_name (i := 3) sc.nd rfl (by first | exact Or.inl rfl | exact Or.inr rfl))
      (pss_one (ps_set (i := 2) sc.nd rfl (by first | exact Or.inl rfl | exact Or.inr rfl) (pe_op op_add (pe_op op_mul (pv 2) pe_int) (pe_call G__law_pull (hr.mono (by first | decide | omega)) rfl T._law_pull.mg T._law_pull.kp T._law_pull.b .nil pass0 (pa_cons (pv 0) (pa_cons pe_int pa_nil)))))))
      (pss_one (ps_ret (pe_op op_modN (pe_callTy call_int1 (by rfl) T.int (by decide +kernel) (pa_cons (pv 2) pa_nil)) (pv 1)))))), ?_⟩
    walk_at "go"
    refine ⟨8, rfl, by decide, by decide, for_range (n := 8) (fun _ σ H' => ∃ (n : Int) (v : Option V), σ = [some (.ref p), some (.int m), some (.int n), v] ∧ Went p H H') ⟨0, none, rfl, Went.rfl' S⟩ ?_ ?_⟩
    · rintro i σ H1 hi ⟨n, v, rfl, W1⟩
      walk_at "go"
      refine ⟨p, _, rfl, W1.1, by decide, by decide, fun r H2 h0 h1 W2 => ?_⟩
      walk_at "go"
      exact ⟨_, _, rfl, W1.trans W2⟩
    · rintro σ H1 ⟨n, v, rfl, W1⟩
      have hmz : m ≠ 0 := by omega
      walk_at "go"
      exact k _ _ (fm hm0).1 (fm hm0).2 W1
end
end Me
set_option maxHeartbeats 8000000
namespace Me
open PySem L2


theorem bitS_top (n i : Nat) : (⟨#[48 + n / 2 ^ i % 2]⟩ : Str) ++ bitS n i = bitS n (i + 1) := by
  apply TL.ext_tl
  rw [TL.tl_append]
  show [48 + n / 2 ^ i % 2] ++ (bitsL n i).toArray.toList = (bitsL n (i + 1)).toArray.toList
  rw [bitsL_top]; rfl
section
variable {P : Program} {w : World} {K : PySem.W.Frag} {mg : Str → Option Value} {base : Heap} {a : Ad}
def spBinary : Sp := fun vs H Q _ => ∃ n k : Nat, vs = [.int (n : Int), .int (k : Int)] ∧ k ≤ 100 ∧ Q (.str (bitS n k)) H
theorem ok_binary (T : Txt P K mg a) : FnOk P w K mg base CX0 1 a._law_binary.f a._law_binary.fd ["_law_number", "_law_many"] spBinary := by
  have sc : FnScope ["_law_number", "_law_many", "_law_text", "_law_k"] ["_law_number", "_law_many"] (defScope (top 109)) := ⟨rfl, rfl, rfl, by decide +kernel, rfl, by decide +kernel, by decide +kernel⟩
  refine T._law_binary.ok sc (fun vs H Q E h => ?_) (fun cdv A outer s H vs Q E hr h => ?_)
  · obtain ⟨n, k, rfl, _⟩ := h; rfl
  · obtain ⟨n, k, rfl, hk, q⟩ := h
    refine ⟨_, (pss_cons (ps_set (i := 2) sc.nd rfl (by first | exact Or.inl rfl | exact Or.inr rfl) pe_str)
      (pss_cons (ps_for PassesOwn.never rfl (pi_range1 rfl T.range (pa_cons (pv 1) pa_nil)) (pg_name (i := 3) sc.nd rfl (by first | exact Or.inl rfl | exact Or.inr rfl))
      (pss_one (ps_set (i := 2) sc.nd rfl (by first | exact Or.inl rfl | exact Or.inr rfl) (pe_op op_add_str (pe_ix ix_str pe_str (pe_op op_odd (pe_op op_shrN (pv 0) (pv 3)) pe_int) (fun _ _ => rfl)) (pv 2)))))
      (pss_one (ps_ret (pv 2))))), ?_⟩
    walk_at "go"
    refine ⟨_, rfl, k, rfl, ?_, ?_, for_range (n := k) (fun i σ H' => (∃ v, σ = [some (.int (n : Int)), some (.int (k : Int)), some (.str (bitS n i)), v]) ∧ H' = H) ⟨⟨none, rfl⟩, rfl⟩ ?_ ?_⟩
    · have := (show -(2 : Int) ^ 62 ≤ 0 by decide); omega
    · have := (show (100 : Int) ≤ 2 ^ 62 by decide); omega
    · rintro i σ H1 hi ⟨⟨v, rfl⟩, rfl⟩
      walk_at "go"
      refine ⟨(n : Int), i, rfl, by rw [Int.zero_add], ?_⟩
      refine ⟨n / 2 ^ i, by push_cast; rfl, rfl, ?_⟩
      have hj : n / 2 ^ i % 2 < 2 := Nat.mod_lt _ (by decide)
      refine ⟨"01", _, 48 + n / 2 ^ i % 2, rfl, rfl, by decide, atI_nat ?_, ?_⟩
      · generalize n / 2 ^ i % 2 = j at hj
        match j, hj with
        | 0, _ => decide +kernel
        | 1, _ => decide +kernel
      · refine ⟨_, rfl, _, _, rfl, rfl, ?_, ?_⟩
        · rw [bitS_len]
          have := (show 101 ≤ sizeLine by decide)
          show 1 + i ≤ _
          omega
        · rw [bitS_top]
          exact ⟨⟨_, rfl⟩, rfl⟩
    · rintro σ H1 ⟨⟨v, rfl⟩, rfl⟩
      walk_at "go"
      exact q
end
end Me
set_option maxHeartbeats 8000000
namespace Me
open PySem L2


section
variable {P : Program} {w : World} {K : PySem.W.Frag} {mg : Str → Option Value} {base : Heap} {a : Ad}
def spCode : Sp := fun vs H Q _ => ∃ (m n : Nat) (wd : Option Nat), vs = [.int (m : Int), wdV wd, .int (n : Int)] ∧ 2 ≤ m ∧ m ≤ 2 ^ 60 ∧ (∀ W, wd = some W → 1 ≤ W ∧ W ≤ 60 ∧ m ≤ 2 ^ W) ∧ Q (.str (codeS m wd n)) H
theorem ok_code (T : Txt P K mg a) : FnOk P w K mg base CX0 2 a._law_code.f a._law_code.fd ["_law_many", "_law_width", "_law_number"] spCode := by
  have G__law_binary : FnOk P w K mg base CX0 1 a._law_binary.f a._law_binary.fd ["_law_number", "_law_many"] spBinary := ok_binary T
  have sc : FnScope ["_law_many", "_law_width", "_law_number", "_law_least", "_law_short"] ["_law_many", "_law_width", "_law_number"] (defScope (top 110)) := ⟨rfl, rfl, rfl, by decide +kernel, rfl, by decide +kernel, by decide +kernel⟩
  refine T._law_code.ok sc (fun vs H Q E h => ?_) (fun cdv A outer s H vs Q E hr h => ?_)
  · obtain ⟨m, n, wd, rfl, _⟩ := h; rfl
  · obtain ⟨m, n, wd, rfl, h1, h2, h3, q⟩ := h
    refine ⟨_, (pss_cons (ps_if (pt_cmpR op_notN (pv 1) pe_non (nomark _))
      (pss_one (ps_ret (pe_call G__law_binary (hr.mono (by first | decide | omega)) rfl T._law_binary.mg T._law_binary.kp T._law_binary.b .nil pass0 (pa_cons (pv 2) (pa_cons (pv 1) pa_nil)))))
      pss_nil)
      (pss_cons (ps_set (i := 3) sc.nd rfl (by first | exact Or.inl rfl | exact Or.inr rfl) (pe_op op_sub (pe_bits (pv 0)) pe_int))
      (pss_cons (ps_set (i := 4) sc.nd rfl (by first | exact Or.inl rfl | exact Or.inr rfl) (pe_op op_sub (pe_op op_shl pe_int (pe_op op_add (pv 3) pe_int)) (pv 0)))
      (pss_cons (ps_if (pt_cmpR op_lt (pv 2) (pv 4) (nomark _))
      (pss_one (ps_ret (pe_call G__law_binary (hr.mono (by first | decide | omega)) rfl T._law_binary.mg T._law_binary.kp T._law_binary.b .nil pass0 (pa_cons (pv 2) (pa_cons (pv 3) pa_nil)))))
      pss_nil)
      (pss_one (ps_ret (pe_call G__law_binary (hr.mono (by first | decide | omega)) rfl T._law_binary.mg T._law_binary.kp T._law_binary.b .nil pass0 (pa_cons (pe_op op_add (pv 2) (pv 4)) (pa_cons (pe_op op_add (pv 3) pe_int) pa_nil))))))))), ?_⟩
    walk_at "go"
    have hl : m.log2 < 61 := (Nat.log2_lt (by omega)).mpr (Nat.lt_of_le_of_lt h2 (by decide))
    cases wd with
    | some W =>
      have hw := h3 W rfl
      refine ⟨rfl, _, rfl, i_yes rfl ?_⟩
      walk_at "go"
      exact ⟨n, W, rfl, by omega, q⟩
    | none =>
      refine ⟨rfl, _, rfl, i_no rfl ?_⟩
      walk_at "go"
      refine i_bits1 rfl (by omega) ?_
      refine i_c (i_rI0 ?_)
      have e : ((m.log2 + 1 : Nat) : Int) - 1 = (m.log2 : Int) := by omega
      rw [e]
      walk_at "go"
      have e2 : (1 : Int) * 2 ^ ((m.log2 : Int) + 1).toNat = ((2 ^ (m.log2 + 1) : Nat) : Int) := shl_one (m.log2 + 1)
      rw [e2]
      have lt := Nat.lt_log2_self (n := m)
      have es : ((2 ^ (m.log2 + 1) : Nat) : Int) - (m : Int) = ((shortN m : Nat) : Int) := by unfold shortN; omega
      rw [es]
      walk_at "go"
      refine i_itd (fun h => ?_) (fun h => ?_)
      · walk_at "go"
        have e : codeS m none n = bitS n m.log2 := if_pos (by omega)
        rw [e] at q
        exact ⟨n, m.log2, rfl, by omega, q⟩
      · walk_at "go"
        have e : codeS m none n = bitS (n + shortN m) (m.log2 + 1) := if_neg (by omega)
        rw [e] at q
        exact ⟨n + shortN m, m.log2 + 1, by push_cast; rfl, by omega, q⟩
end
end Me
set_option maxHeartbeats 8000000
namespace Me
open PySem L2


def resV : Res → List V
  | .few n => [.str "few", .int (n : Int)]
  | .bad i => [.str "bad", .int (i : Int)]
  | .left u => [.str "left", .int (u : Int)]
  | .read n => [.str "read", .int (n : Int)]
theorem len_l (z : Str) : z.cps.toList.length = z.length := by simp [Str.length]
theorem tl_to (z : Str) (k : Nat) : (cutS z none (some (k : Int))).cps.toList = z.cps.toList.take k := by
  show ((z.cps.toList.drop (HT.sIx z.length 0 none)).take (HT.sIx z.length z.length (some (k : Int)) - HT.sIx z.length 0 none)).toArray.toList = _
  have e1 : HT.sIx z.length 0 none = 0 := rfl
  have e2 : HT.sIx z.length z.length (some (k : Int)) = min k z.length := HT.sIx_nat _ _ _
  rw [e1, e2]
  simp only [List.drop_zero, Nat.sub_zero]
  rw [← len_l, List.take_eq_take_iff]
  omega
theorem fold_lt : ∀ (l : List Nat) (acc : Nat), allB l → l.foldl (fun a c => a * 2 + Bn.bv c) acc < (acc + 1) * 2 ^ l.length
  | [], acc, _ => by simp
  | c :: r, acc, h => by
    have ih := fold_lt r (acc * 2 + Bn.bv c) fun d hd => h d (List.mem_cons_of_mem _ hd)
    have hc : Bn.bv c ≤ 1 := by
      unfold Bn.bv
      rcases h c List.mem_cons_self with rfl | rfl <;> decide
    rw [List.foldl_cons, List.length_cons, Nat.pow_succ]
    refine Nat.lt_of_lt_of_le ih ?_
    rw [Nat.mul_comm (2 ^ r.length) 2, ← Nat.mul_assoc]
    exact Nat.mul_le_mul_right _ (by omega)
theorem binNum_lt (l : List Nat) (h : allB l) : Bn.binNum l < 2 ^ l.length := by
  have := fold_lt l 0 h
  rw [Nat.zero_add, Nat.one_mul] at this
  exact this
theorem tl_cat (x y : Str) : (x ++ y).cps.toList = x.cps.toList ++ y.cps.toList := TL.tl_append x y
theorem bits_small {v k : Nat} (h : v < 2 ^ k) : Builtin.Int.intBits (v : Int) ≤ k := by
  by_cases z : v = 0
  · subst z
    exact Nat.le_trans (show Builtin.Int.intBits ((0 : Nat) : Int) ≤ 0 by decide +kernel) (Nat.zero_le _)
  · rw [bits_nat (by omega)]
    exact (Nat.log2_lt z).mpr h
theorem shl_ok {v j : Nat} (h : v < 2 ^ 100) (hj : j ≤ 100) : CShl (v : Int) (j : Int) := by
  have := bits_small h
  refine ⟨by omega, ?_⟩
  have e : (2 : Int) ^ 27 = 134217728 := by decide
  rw [e]
  omega
theorem bin_zero (t : Str) : Bn.binNum (("0" : Str) ++ t).cps.toList = Bn.binNum t.cps.toList := by
  rw [tl_cat]
  show Bn.binNum (48 :: t.cps.toList) = _
  rfl
theorem allB_zero {t : Str} (h : allB t.cps.toList) : allB (("0" : Str) ++ t).cps.toList := by
  rw [tl_cat]
  intro c hc
  rcases List.mem_cons.mp (show c ∈ 48 :: t.cps.toList from hc) with rfl | hc
  · exact .inl rfl
  · exact h c hc
theorem i_bin {t : Str} {j : Nat} {H : Hp} {Q : VK} (hb : allB t.cps.toList) (ht : t.length ≤ 100) (hj : 1 ≤ j) (hl : 1 ≤ t.length) (q : Q (.int (Bn.binNum (t.cps.toList.take j) : Nat)) H) : rIntBin [.str (cutS t none (some (j : Int))), .int 2] H Q := by
  have ln := len_l t
  refine ⟨_, rfl, ?_, ?_, ?_, ?_⟩
  · rw [tl_to]
    intro z
    have z := congrArg List.length z
    rw [List.length_take] at z
    simp only [List.length_nil] at z
    omega
  · rw [← len_l, tl_to, List.length_take]; omega
  · rw [tl_to]; exact fun c hc => hb c (List.mem_of_mem_take hc)
  · rw [tl_to]; exact q
theorem fin_res {H : Hp} {Q : VK} {q : Addr} {r : Res} {xs : List V} (k : ∀ q H', Same H H' → H' q = some (.tup (resV r)) → Q (.ref q) H') (n : H q = none) (e : xs = resV r) : Q (.ref q) (upd H q (.tup xs)) := k q _ (same_upd n) (by rw [upd_same, e])
theorem wide_key {m W : Nat} (hm : 2 ≤ m) (hW : 1 ≤ W) (hmW : m ≤ 2 ^ W) {l : List Nat} (hl : allB l) :
    (∀ i, i < l.length → i < W → badP m W l i → (∀ j, j < i → ¬ badP m W l j) → outR m (some W) l = .bad i) ∧ ((∀ j, j < min l.length W → ¬ badP m W l j) → outR m (some W) l = dueW W l) := by
  rcases out_wide hm hW hmW hl with ⟨i, i1, i2, i3, i4, e⟩ | ⟨i1, e⟩
  · refine ⟨fun j j1 j2 j3 j4 => ?_, fun h => absurd i3 (h i (by omega))⟩
    have : i = j := by
      rcases Nat.lt_trichotomy i j with lt | eq | gt
      · exact absurd i3 (j4 i lt)
      · exact eq
      · exact absurd j3 (i4 j gt)
    rw [← this]; exact e
  · exact ⟨fun j j1 j2 j3 _ => absurd j3 (i1 j j1 j2), fun _ => e⟩
section
variable {P : Program} {w : World} {K : PySem.W.Frag} {mg : Str → Option Value} {base : Heap} {a : Ad}
def spDue : Sp := fun vs H Q _ => ∃ (m : Nat) (wd : Option Nat) (t : Str), vs = [.int (m : Int), wdV wd, .str t] ∧ 2 ≤ m ∧ m ≤ 2 ^ 60 ∧ (∀ W, wd = some W → 1 ≤ W ∧ W ≤ 60 ∧ m ≤ 2 ^ W) ∧ allB t.cps.toList ∧ t.length ≤ 100 ∧
  ∀ q H', Same H H' → H' q = some (.tup (resV (outR m wd t.cps.toList))) → Q (.ref q) H'
theorem ok_due_t (T : Txt P K mg a) : FnOk P w K mg base CX0 2 a._law_due.f a._law_due.fd ["_law_many", "_law_width", "_law_bits"] spDue := by
  have sc : FnScope ["_law_many", "_law_width", "_law_bits", "_law_least", "_law_short", "_law_size", "_law_number", "_law_at"] ["_law_many", "_law_width", "_law_bits"] (defScope (top 111)) := ⟨rfl, rfl, rfl, by decide +kernel, rfl, by decide +kernel, by decide +kernel⟩
  refine T._law_due.ok sc (fun vs H Q E h => ?_) (fun cdv A outer s H vs Q E hr h => ?_)
  · obtain ⟨m, wd, t, rfl, _⟩ := h; rfl
  · obtain ⟨m, wd, t, rfl, h1, h2, h3, hb, ht, k⟩ := h
    refine ⟨_, (pss_cons (ps_if (pt_cmpR op_isN (pv 1) pe_non (nomark _))
      (pss_cons (ps_set (i := 3) sc.nd rfl (by first | exact Or.inl rfl | exact Or.inr rfl) (pe_op op_sub (pe_bits (pv 0)) pe_int))
      (pss_cons (ps_set (i := 4) sc.nd rfl (by first | exact Or.inl rfl | exact Or.inr rfl) (pe_op op_sub (pe_op op_shl pe_int (pe_op op_add (pv 3) pe_int)) (pv 0)))
      (pss_cons (ps_set (i := 5) sc.nd rfl (by first | exact Or.inl rfl | exact Or.inr rfl) (pv 3))
      (pss_cons (ps_if (pt_cmpR op_lt (pe_callB call_len_str (by rfl) T.len PySem.boot_len (pa_cons (pv 2) pa_nil)) (pv 3) (nomark _))
      (pss_cons (ps_if (pt_cmpR op_ge (pe_op op_shlN (pe_callTy call_int_bin (by rfl) T.int (by decide +kernel) (pa_cons (pe_op op_add_str pe_str (pv 2)) (pa_cons pe_int pa_nil))) (pe_op op_sub (pv 3) (pe_callB call_len_str (by rfl) T.len PySem.boot_len (pa_cons (pv 2) pa_nil)))) (pv 4) (nomark _))
      (pss_one (ps_set (i := 5) sc.nd rfl (by first | exact Or.inl rfl | exact Or.inr rfl) (pe_op op_add (pv 3) pe_int)))
      pss_nil)
      (pss_one (ps_ret (pe_tup (pa_cons pe_str (pa_cons (pe_op op_sub (pv 5) (pe_callB call_len_str (by rfl) T.len PySem.boot_len (pa_cons (pv 2) pa_nil))) pa_nil))))))
      pss_nil)
      (pss_cons (ps_set (i := 6) sc.nd rfl (by first | exact Or.inl rfl | exact Or.inr rfl) (pe_callTy call_int_bin (by rfl) T.int (by decide +kernel) (pa_cons (pe_slice sl_str (pv 2) po_none (po_some (pv 3))) (pa_cons pe_int pa_nil))))
      (pss_one (ps_if (pt_cmpR op_ge (pv 6) (pv 4) (nomark _))
      (pss_cons (ps_set (i := 5) sc.nd rfl (by first | exact Or.inl rfl | exact Or.inr rfl) (pe_op op_add (pv 3) pe_int))
      (pss_cons (ps_if (pt_cmpR op_eq (pe_callB call_len_str (by rfl) T.len PySem.boot_len (pa_cons (pv 2) pa_nil)) (pv 3) (nomark _))
      (pss_one (ps_ret (pe_tup (pa_cons pe_str (pa_cons pe_int pa_nil)))))
      pss_nil)
      (pss_one (ps_set (i := 6) sc.nd rfl (by first | exact Or.inl rfl | exact Or.inr rfl) (pe_op op_sub (pe_callTy call_int_bin (by rfl) T.int (by decide +kernel) (pa_cons (pe_slice sl_str (pv 2) po_none (po_some (pv 5))) (pa_cons pe_int pa_nil))) (pv 4))))))
      pss_nil)))))))
      (pss_cons (ps_set (i := 5) sc.nd rfl (by first | exact Or.inl rfl | exact Or.inr rfl) (pv 1))
      (pss_cons (ps_for PassesOwn.never rfl (pi_range1 rfl T.range (pa_cons (pe_callB (call_min2 rfl) (by rfl) T.min (by decide +kernel) (pa_cons (pe_callB call_len_str (by rfl) T.len PySem.boot_len (pa_cons (pv 2) pa_nil)) (pa_cons (pv 5) pa_nil))) pa_nil)) (pg_name (i := 7) sc.nd rfl (by first | exact Or.inl rfl | exact Or.inr rfl))
      (pss_one (ps_if (pt_cmpR op_ge (pe_op op_shlN (pe_callTy call_int_bin (by rfl) T.int (by decide +kernel) (pa_cons (pe_slice sl_str (pv 2) po_none (po_some (pe_op op_add (pv 7) pe_int))) (pa_cons pe_int pa_nil))) (pe_op op_sub (pe_op op_sub (pv 5) (pv 7)) pe_int)) (pv 0) (nomark _))
      (pss_one (ps_ret (pe_tup (pa_cons pe_str (pa_cons (pv 7) pa_nil)))))
      pss_nil)))
      (pss_cons (ps_if (pt_cmpR op_lt (pe_callB call_len_str (by rfl) T.len PySem.boot_len (pa_cons (pv 2) pa_nil)) (pv 5) (nomark _))
      (pss_one (ps_ret (pe_tup (pa_cons pe_str (pa_cons (pe_op op_sub (pv 5) (pe_callB call_len_str (by rfl) T.len PySem.boot_len (pa_cons (pv 2) pa_nil))) pa_nil)))))
      pss_nil)
      (pss_one (ps_set (i := 6) sc.nd rfl (by first | exact Or.inl rfl | exact Or.inr rfl) (pe_callTy call_int_bin (by rfl) T.int (by decide +kernel) (pa_cons (pe_slice sl_str (pv 2) po_none (po_some (pv 5))) (pa_cons pe_int pa_nil)))))))))
      (pss_cons (ps_if (pt_cmpR op_gt (pe_callB call_len_str (by rfl) T.len PySem.boot_len (pa_cons (pv 2) pa_nil)) (pv 5) (nomark _))
      (pss_one (ps_ret (pe_tup (pa_cons pe_str (pa_cons (pv 5) pa_nil)))))
      pss_nil)
      (pss_one (ps_ret (pe_tup (pa_cons pe_str (pa_cons (pv 6) pa_nil))))))), ?_⟩
    walk_at "go"
    have ln := len_l t
    have hv : Bn.binNum t.cps.toList < 2 ^ 100 := Nat.lt_of_lt_of_le (binNum_lt _ hb) (pow_le (by omega))
    obtain ⟨f1, f2, f3, f4⟩ := log2_facts h1 h2
    have hsz : 100 ≤ sizeLine := by decide
    cases wd with
    | none =>
      rw [out_tight f1 f2 f3 hb] at k
      unfold dueT at k
      refine ⟨rfl, _, rfl, i_yes rfl ?_⟩
      walk_at "go"
      refine i_bits1 rfl (by omega) ?_
      refine i_c (i_rI0 ?_)
      have e : ((m.log2 + 1 : Nat) : Int) - 1 = (m.log2 : Int) := by omega
      rw [e]
      walk_at "go"
      have e2 : (1 : Int) * 2 ^ ((m.log2 : Int) + 1).toNat = ((2 ^ (m.log2 + 1) : Nat) : Int) := shl_one (m.log2 + 1)
      rw [e2]
      have es : ((2 ^ (m.log2 + 1) : Nat) : Int) - (m : Int) = ((shortN m : Nat) : Int) := by unfold shortN; omega
      rw [es]
      walk_at "go"
      refine ⟨t, rfl, Nat.le_trans ht hsz, ?_⟩
      walk_at "go"
      refine i_itd (fun h => ?_) (fun h => ?_)
      · rw [if_pos (by omega)] at k
        walk_at "go"
        have tz : (("0" : Str) ++ t).cps.toList.length ≤ 101 := by
          rw [tl_cat, List.length_append, ln]
          show 1 + t.length ≤ 101
          omega
        refine ⟨_, _, rfl, rfl, ?_, ?_⟩
        · show 1 + t.length ≤ _
          have := (show 101 ≤ sizeLine by decide)
          omega
        walk_at "go"
        refine ⟨("0" : Str) ++ t, rfl, ?_, ?_, allB_zero hb, ?_⟩
        · rw [tl_cat]; exact fun z => by cases z
        · rw [← len_l]; omega
        rw [bin_zero]
        walk_at "go"
        refine ⟨t, rfl, Nat.le_trans ht hsz, ?_⟩
        refine i_rI0 ?_
        have ej : (m.log2 : Int) - (t.length : Int) = ((m.log2 - t.length : Nat) : Int) := by omega
        rw [ej]
        refine ⟨_, m.log2 - t.length, rfl, rfl, shl_ok hv (by omega), ?_⟩
        walk_at "go"
        have ep : (Bn.binNum t.cps.toList : Int) * 2 ^ (m.log2 - t.length) = ((Bn.binNum t.cps.toList * 2 ^ (m.log2 - t.cps.toList.length) : Nat) : Int) := by rw [ln]; push_cast; rfl
        rw [ep]
        refine i_itd (fun h5 => ?_) (fun h5 => ?_)
        · rw [if_pos (by omega)] at k
          walk_at "go"
          refine ⟨t, rfl, Nat.le_trans ht hsz, ?_⟩
          refine i_rI0 ?_
          walk_at "go"
          rename_i q nq
          refine fin_res k nq ?_
          show _ = [V.str "few", V.int _]
          rw [show (m.log2 : Int) + 1 - (t.length : Int) = ((m.log2 + 1 - t.cps.toList.length : Nat) : Int) by omega]
        · rw [if_neg (by omega)] at k
          walk_at "go"
          refine ⟨t, rfl, Nat.le_trans ht hsz, ?_⟩
          refine i_rI0 ?_
          walk_at "go"
          rename_i q nq
          refine fin_res k nq ?_
          show _ = [V.str "few", V.int _]
          rw [show (m.log2 : Int) - (t.length : Int) = ((m.log2 - t.cps.toList.length : Nat) : Int) by omega]
      · rw [if_neg (by omega)] at k
        walk_at "go"
        refine ⟨_, rfl, ?_⟩
        refine i_nopart ?_
        refine i_part ?_
        walk_at "go"
        refine ⟨_, rfl, t, rfl, Nat.le_trans ht hsz, ?_⟩
        walk_at "go"
        refine i_bin hb ht f3 (by omega) ?_
        walk_at "go"
        refine i_itd (fun h5 => ?_) (fun h5 => ?_)
        · rw [if_pos (by omega)] at k
          walk_at "go"
          refine ⟨t, rfl, Nat.le_trans ht hsz, ?_⟩
          walk_at "go"
          refine i_itei (fun h6 => ?_) (fun h6 => ?_)
          · rw [if_pos (by omega)] at k
            walk_at "go"
            rename_i q nq
            exact fin_res k nq rfl
          · rw [if_neg (by omega)] at k
            walk_at "go"
            refine ⟨_, rfl, ?_⟩
            refine i_nopart ?_
            refine i_part ?_
            walk_at "go"
            refine ⟨_, rfl, t, rfl, Nat.le_trans ht hsz, ?_⟩
            walk_at "go"
            refine i_bin (j := m.log2 + 1) hb ht (by omega) (by omega) ?_
            walk_at "go"
            refine ⟨t, rfl, Nat.le_trans ht hsz, ?_⟩
            walk_at "go"
            refine i_itd (fun h7 => ?_) (fun h7 => ?_)
            · rw [if_pos (by omega)] at k
              walk_at "go"
              rename_i q nq
              exact fin_res k nq rfl
            · rw [if_neg (by omega)] at k
              walk_at "go"
              rename_i q nq
              refine fin_res k nq ?_
              have h8 : shortN m ≤ Bn.binNum (t.cps.toList.take (m.log2 + 1)) := by
                rw [bin_take (by omega)]; omega
              show _ = [V.str "read", V.int _]
              rw [show (Bn.binNum (t.cps.toList.take (m.log2 + 1)) : Int) - (shortN m : Int) = ((Bn.binNum (t.cps.toList.take (m.log2 + 1)) - shortN m : Nat) : Int) by omega]
        · rw [if_neg (by omega)] at k
          walk_at "go"
          refine ⟨t, rfl, Nat.le_trans ht hsz, ?_⟩
          walk_at "go"
          refine i_itd (fun h7 => ?_) (fun h7 => ?_)
          · rw [if_pos (by omega)] at k
            walk_at "go"
            rename_i q nq
            exact fin_res k nq rfl
          · rw [if_neg (by omega)] at k
            walk_at "go"
            rename_i q nq
            exact fin_res k nq rfl
    | some W =>
      obtain ⟨w1, w2, w3⟩ := h3 W rfl
      dsimp only [wdV]
      refine ⟨rfl, _, rfl, i_no rfl ?_⟩
      walk_at "go"
      refine ⟨_, rfl, t, rfl, Nat.le_trans ht hsz, _, rfl, _, _, rfl, ?_⟩
      have em : (if (W : Int) < (t.length : Int) then (W : Int) else (t.length : Int)) = ((min t.length W : Nat) : Int) := by split <;> omega
      rw [em]
      generalize hmn : min t.length W = mn
      refine ⟨(mn : Int), rfl, ?_, ?_, for_range (n := mn) (fun i σ' H' => (∀ j, j < i → ¬ badP m W t.cps.toList j) ∧ H' = H ∧ ∃ v7, σ' = [some (.int (m : Int)), some (.int (W : Int)), some (.str t), none, none, some (.int (W : Int)), none, v7]) ⟨fun j hj => absurd hj (Nat.not_lt_zero _), rfl, none, rfl⟩ ?_ ?_⟩
      · have := (show -(2 : Int) ^ 62 ≤ 0 by decide); omega
      · have := (show (100 : Int) ≤ 2 ^ 62 by decide); omega
      · rintro i σ' H1 hi ⟨nb, rfl, v7, rfl⟩
        refine i_gname ?_
        walk_at "go"
        refine ⟨_, rfl, ?_⟩
        refine i_nopart ?_
        refine i_part ?_
        walk_at "go"
        obtain ⟨key1, _⟩ := wide_key h1 w1 w3 hb
        have hi2 : i < t.cps.toList.length ∧ i < W := by omega
        have hv2 : Bn.binNum (t.cps.toList.take (i + 1)) < 2 ^ 100 := Nat.lt_of_lt_of_le (binNum_lt _ fun c hc => hb c (List.mem_of_mem_take hc)) (pow_le (by rw [List.length_take]; omega))
        refine ⟨((i + 1 : Nat) : Int), by congr 1; omega, t, rfl, Nat.le_trans ht hsz, ?_⟩
        walk_at "go"
        refine i_bin (j := i + 1) hb ht (by omega) (by omega) ?_
        walk_at "go"
        refine ⟨_, W - i - 1, rfl, by congr 1; omega, shl_ok hv2 (by omega), ?_⟩
        walk_at "go"
        have ep : (Bn.binNum (t.cps.toList.take (i + 1)) : Int) * 2 ^ (W - i - 1) = ((Bn.binNum (t.cps.toList.take (i + 1)) * 2 ^ (W - i - 1) : Nat) : Int) := by push_cast; rfl
        rw [ep]
        refine i_itd (fun h5 => ?_) (fun h5 => ?_)
        · have hbad : badP m W t.cps.toList i := by unfold badP; omega
          rw [key1 i hi2.1 hi2.2 hbad nb] at k
          walk_at "go"
          rename_i q nq
          refine fin_res k nq ?_
          rw [Int.zero_add]; rfl
        · walk_at "go"
          refine ⟨fun j hj => ?_, rfl, _, rfl⟩
          by_cases z : j < i
          · exact nb j z
          · have : j = i := by omega
            rw [this]
            unfold badP; omega
      · rintro σ' H1 ⟨nb, rfl, v7, rfl⟩
        obtain ⟨_, key2⟩ := wide_key h1 w1 w3 hb
        rw [key2 (fun j hj => nb j (by omega))] at k
        unfold dueW at k
        walk_at "go"
        refine ⟨t, rfl, Nat.le_trans ht hsz, ?_⟩
        walk_at "go"
        refine i_itd (fun h5 => ?_) (fun h5 => ?_)
        · rw [if_pos (by omega)] at k
          walk_at "go"
          refine ⟨t, rfl, Nat.le_trans ht hsz, ?_⟩
          refine i_rI0 ?_
          walk_at "go"
          rename_i q nq
          refine fin_res k nq ?_
          show _ = [V.str "few", V.int _]
          rw [show (W : Int) - (t.length : Int) = ((W - t.cps.toList.length : Nat) : Int) by omega]
        · rw [if_neg (by omega)] at k
          walk_at "go"
          refine ⟨_, rfl, ?_⟩
          refine i_nopart ?_
          refine i_part ?_
          walk_at "go"
          refine ⟨_, rfl, t, rfl, Nat.le_trans ht hsz, ?_⟩
          walk_at "go"
          refine i_bin hb ht w1 (by omega) ?_
          walk_at "go"
          refine ⟨t, rfl, Nat.le_trans ht hsz, ?_⟩
          walk_at "go"
          refine i_itd (fun h7 => ?_) (fun h7 => ?_)
          · rw [if_pos (by omega)] at k
            walk_at "go"
            rename_i q nq
            exact fin_res k nq rfl
          · rw [if_neg (by omega)] at k
            walk_at "go"
            rename_i q nq
            exact fin_res k nq rfl
end
end Me
set_option maxHeartbeats 8000000
namespace Me
open PySem L2


theorem kitAny2 {K : PySem.W.Frag} {t : Value} {a b : Value} {x y : Bool} (e1 : PySem.W.kitOne K t a = some x) (e2 : PySem.W.kitOne K t b = some y) : PySem.W.kitAny K t [a, b] = some (x || y) := by
  unfold PySem.W.kitAny
  rw [e1]
  cases x with
  | true => rfl
  | false =>
    show PySem.W.kitAny K t [b] = _
    unfold PySem.W.kitAny
    rw [e2]
    cases y <;> rfl
theorem i_isiT2 {K : PySem.W.Frag} {H : Hp} {Q : VK} {x : V} {tp : Addr} {t n1 n2 : String} {b1 b2 : Bool} (hT : H tp = some (.tup [.ty n1, .ty n2])) (ty : TyX K H x (.type t)) (e1 : kitB t n1 = some b1) (e2 : kitB t n2 = some b2) (q : Q (.bl (b1 || b2)) H) : rIsiT K [x, .ref tp] H Q :=
  ⟨x, tp, [.ty n1, .ty n2], .type t, [.type n1, .type n2], b1 || b2, rfl, hT, .cons (.ty _) (.cons (.ty _) .nil), ty, kitAny2 (kit_ty e1) (kit_ty e2), q⟩
section
variable {P : Program} {w : World} {K : PySem.W.Frag} {mg : Str → Option Value} {base : Heap} {a : Ad}
def leafOk : V → Prop
  | .str z => (reprText z).length ≤ sizeLine
  | .int i => i.natAbs.log2 < 1920
  | _ => False
def spLeaf : Sp := fun vs H Q _ => ∃ x : V, vs = [x, x] ∧ leafOk x ∧ ∀ H', Same H H' → Q (.bl true) H'
theorem ok_leaf (T : Txt P K mg a) : FnOk P w K mg base CX0 1 a._law_same.f a._law_same.fd ["_law_told_here", "_law_due_here"] spLeaf := by
  have sc : FnScope ["_law_told_here", "_law_due_here", "_law_key", "_law_k"] ["_law_told_here", "_law_due_here"] (defScope (top 105)) := ⟨rfl, rfl, rfl, by decide +kernel, rfl, by decide +kernel, by decide +kernel⟩
  refine T._law_same.ok sc (fun vs H Q E h => ?_) (fun cdv A outer s H vs Q E hr h => ?_)
  · obtain ⟨x, rfl, _⟩ := h; rfl
  · obtain ⟨x, rfl, hx, k⟩ := h
    refine ⟨_, (pss_cons (ps_if (pt_val (pe_callB call_isi (by rfl) T.isinstance (by decide +kernel) (pa_cons (pv 1) (pa_cons (pe_bltn (v := .ty "dict") (by rfl) T.dict (by decide +kernel) rfl) pa_nil))))
      pss_never
      pss_nil)
      (pss_cons (ps_if (pt_val (pe_callB call_isiT (by rfl) T.isinstance (by decide +kernel) (pa_cons (pv 1) (pa_cons (pe_tup (pa_cons (pe_bltn (v := .ty "list") (by rfl) T.list (by decide +kernel) rfl) (pa_cons (pe_bltn (v := .ty "tuple") (by rfl) T.tuple (by decide +kernel) rfl) pa_nil))) pa_nil))))
      pss_never
      pss_nil)
      (pss_one (ps_ret (pe_cmpR op_eq (pe_callB call_repr (by rfl) T.repr (by decide +kernel) (pa_cons (pv 0) pa_nil)) (pe_callB call_repr (by rfl) T.repr (by decide +kernel) (pa_cons (pv 1) pa_nil)) (nomark _)))))), ?_⟩
    cases x with
    | str z =>
      walk_at "go"
      rename_i q nq
      have s1 := same_upd (o := .tup [.ty "list", .ty "tuple"]) nq
      refine i_isiT2 upd_same (.base (.str _)) kb_str_list kb_str_tuple ?_
      refine ⟨_, rfl, i_no rfl ?_⟩
      walk_at "go"
      refine .inl ⟨z, rfl, hx, ?_⟩
      walk_at "go"
      refine .inl ⟨z, rfl, hx, ?_⟩
      walk_at "go"
      rw [decide_eq_true rfl]
      exact k _ s1
    | int i =>
      walk_at "go"
      rename_i q nq
      have s1 := same_upd (o := .tup [.ty "list", .ty "tuple"]) nq
      refine i_isiT2 upd_same (.base (.int _)) kb_int_list kb_int_tuple ?_
      refine ⟨_, rfl, i_no rfl ?_⟩
      walk_at "go"
      refine .inr ⟨i, rfl, hx, ?_⟩
      walk_at "go"
      refine .inr ⟨i, rfl, hx, ?_⟩
      walk_at "go"
      rw [decide_eq_true rfl]
      exact k _ s1
    | _ => exact hx.elim
end
end Me
set_option maxHeartbeats 8000000
namespace Me
open PySem L2


section
variable {P : Program} {w : World} {K : PySem.W.Frag} {mg : Str → Option Value} {base : Heap} {a : Ad}
def spTups : Sp := fun vs H Q _ => ∃ (p q : Addr) (xs : List V), vs = [.ref p, .ref q] ∧ H p = some (.tup xs) ∧ H q = some (.tup xs) ∧ xs.length ≤ 100 ∧ (∀ x ∈ xs, leafOk x) ∧ ∀ H', Same H H' → Q (.bl true) H'
theorem ok_tups (T : Txt P K mg a) : FnOk P w K mg base CX0 2 a._law_same.f a._law_same.fd ["_law_told_here", "_law_due_here"] spTups := by
  have G__law_same : FnOk P w K mg base CX0 1 a._law_same.f a._law_same.fd ["_law_told_here", "_law_due_here"] spLeaf := ok_leaf T
  have sc : FnScope ["_law_told_here", "_law_due_here", "_law_key", "_law_k"] ["_law_told_here", "_law_due_here"] (defScope (top 105)) := ⟨rfl, rfl, rfl, by decide +kernel, rfl, by decide +kernel, by decide +kernel⟩
  refine T._law_same.ok sc (fun vs H Q E h => ?_) (fun cdv A outer s H vs Q E hr h => ?_)
  · obtain ⟨p, q, xs, rfl, _⟩ := h; rfl
  · obtain ⟨p, q, xs, rfl, hp, hq, hl, hx, k⟩ := h
    refine ⟨_, (pss_cons (ps_if (pt_val (pe_callB call_isi (by rfl) T.isinstance (by decide +kernel) (pa_cons (pv 1) (pa_cons (pe_bltn (v := .ty "dict") (by rfl) T.dict (by decide +kernel) rfl) pa_nil))))
      pss_never
      pss_nil)
      (pss_cons (ps_if (pt_val (pe_callB call_isiT (by rfl) T.isinstance (by decide +kernel) (pa_cons (pv 1) (pa_cons (pe_tup (pa_cons (pe_bltn (v := .ty "list") (by rfl) T.list (by decide +kernel) rfl) (pa_cons (pe_bltn (v := .ty "tuple") (by rfl) T.tuple (by decide +kernel) rfl) pa_nil))) pa_nil))))
      (pss_cons (ps_if (PW.pt (pw_or (pt_cmpR op_ne (pe_callB call_isi (by rfl) T.isinstance (by decide +kernel) (pa_cons (pv 0) (pa_cons (pe_bltn (v := .ty "list") (by rfl) T.list (by decide +kernel) rfl) pa_nil))) (pe_callB call_isi (by rfl) T.isinstance (by decide +kernel) (pa_cons (pv 1) (pa_cons (pe_bltn (v := .ty "list") (by rfl) T.list (by decide +kernel) rfl) pa_nil))) (nomark _)) (pw_or1 (pt_cmpR op_ne (pe_callB call_isi (by rfl) T.isinstance (by decide +kernel) (pa_cons (pv 0) (pa_cons (pe_bltn (v := .ty "tuple") (by rfl) T.tuple (by decide +kernel) rfl) pa_nil))) (pe_callB call_isi (by rfl) T.isinstance (by decide +kernel) (pa_cons (pv 1) (pa_cons (pe_bltn (v := .ty "tuple") (by rfl) T.tuple (by decide +kernel) rfl) pa_nil))) (nomark _)))))
      pss_never
      pss_nil)
      (pss_one (ps_ret (pe_and (pe_cmpR op_eq (pe_callB call_len_seq (by rfl) T.len PySem.boot_len (pa_cons (pv 0) pa_nil)) (pe_callB call_len_seq (by rfl) T.len PySem.boot_len (pa_cons (pv 1) pa_nil)) (nomark _)) (pe_one (pe_callB (cr_all rfl) (by rfl) T.all (by decide +kernel) (pa_cons (pe_lc (te := tCall spLeaf [] E0 (tCons (tOp (rIxT K) (tVar 0) (tVar 3)) (tCons (tOp (rIxT K) (tVar 1) (tVar 3)) tNil))) (own := [("_law_k", 3)]) (g := gName 3) (by rfl) sc.nd (pi_range1 rfl T.range (pa_cons (pe_callB call_len_seq (by rfl) T.len PySem.boot_len (pa_cons (pv 1) pa_nil)) pa_nil)) (blkOk_by (own := [("_law_k", 3)]) (N := ["_law_told_here", "_law_due_here", "_law_key", "_law_k"]) (sc := defScope (top 105)) (by decide +kernel)) (fun _ _ _ _ _ => pg_name (i := 3) sc.nd rfl (Or.inl rfl)) (fun _ _ _ _ _ => pts_nil) (fun _ _ _ _ _ => (by exact (pe_call G__law_same (hr.mono (by first | decide | omega)) rfl T._law_same.mg T._law_same.kp T._law_same.b .nil pass0 (pa_cons (pe_ix ix_tup (pv 0) (pv 3) (fun _ _ => rfl)) (pa_cons (pe_ix ix_tup (pv 1) (pv 3) (fun _ _ => rfl)) pa_nil)))))) pa_nil)))))))
      pss_nil)
      pss_never)), ?_⟩
    walk_at "go"
    rename_i t nt
    have s1 := same_upd (o := .tup [.ty "list", .ty "tuple"]) nt
    refine i_isiT2 upd_same (.base (.tup (s1 _ _ hq))) kb_tuple_list kb_tuple_tuple ?_
    refine ⟨_, rfl, i_yes rfl ?_⟩
    generalize hG : upd H t (.tup [.ty "list", .ty "tuple"]) = G at s1 ⊢
    have hp1 := s1 _ _ hp
    have hq1 := s1 _ _ hq
    walk_at "go"
    refine i_no (by rw [decide_eq_true rfl]; rfl) ?_
    walk_at "go"
    refine i_no (by rw [decide_eq_true rfl]; rfl) ?_
    walk_at "go"
    refine i_yes (decide_eq_true rfl) ?_
    walk_at "go"
    refine ⟨_, rfl, q, xs, rfl, .inr (SqT.of hq1), (xs.length : Int), rfl, ?_, ?_, fun D nD => ?_⟩
    · have := (show -(2 : Int) ^ 62 ≤ 0 by decide); omega
    · have := (show (100 : Int) < 2 ^ 62 by decide); omega
    have s2 := same_upd (o := .lst []) nD
    refine lc_range (n := xs.length) (fun i G' => Same G G' ∧ G' D = some (.lst (List.replicate i (.bl true)))) ⟨s2, upd_same⟩ (fun i G' hi h => ?_) (fun G' h => ?_)
    · obtain ⟨s3, hD⟩ := h
      obtain ⟨x, hx'⟩ : ∃ x, xs[i]? = some x := ⟨xs[i], List.getElem?_eq_getElem hi⟩
      refine ⟨rfl, ?_⟩
      unfold tYes
      with_reducible refine L2.iteT ?_
      refine i_call ?_
      have ei : atI xs (0 + (i : Int)) = some x := by rw [Int.zero_add]; exact atI_nat hx'
      refine ⟨_, rfl, _, rfl, p, xs, _, x, rfl, rfl, SqT.of (s3 _ _ hp1), ei, _, rfl, _, rfl, q, xs, _, x, rfl, rfl, SqT.of (s3 _ _ hq1), ei, ?_⟩
      refine ⟨x, rfl, hx x (List.mem_of_getElem? hx'), fun G2 s4 => ⟨_, s4 _ _ hD, ?_, fun b o e => ?_, ?_⟩⟩
      · rw [List.length_replicate]
        have := (show 100 < sizeLine by decide)
        omega
      · rw [upd_ne (ne_of_none e nD)]
        exact s4 _ _ (s3 _ _ e)
      · rw [upd_same, List.replicate_succ']
    · obtain ⟨s3, hD⟩ := h
      refine i_nil ⟨D, List.replicate xs.length true, rfl, SqL.of (by rw [hD, List.map_replicate]), ?_⟩
      have k := k G' (fun b o e => s3 _ _ (s1 _ _ e))
      rw [show (List.replicate xs.length true).all id = true by simp]
      exact k
end
end Me
set_option maxHeartbeats 8000000
namespace Me
open PySem L2


def tEx (s : Str) (f : Str) (x : Addr) (d : Option Addr) : TS := tRet (tTup (tCons (tC (.str s)) (tCons (tXp x d f (tVar 3)) tNil)))
section
variable {P : Program} {w : World} {K : PySem.W.Frag} {mg : Str → Option Value} {base : Heap} {a : Ad}
def spTold (a : Ad) : Sp := fun vs H Q _ => ∃ (e : Addr) (t z : Str) (low : Int) (m : Nat) (wd : Option Nat), vs = [.ref e, .str t, .int low] ∧ EdAt a H e z low m wd ∧ allB t.cps.toList ∧ t.length ≤ 100 ∧ ∀ q H', Same H H' → H' q = some (.tup (resV (outR m wd t.cps.toList))) → Q (.ref q) H'
theorem ok_told (T : Txt P K mg a) : FnOk P w K mg base CX0 8 a._law_told.f a._law_told.fd ["_law_made", "_law_bits", "_law_low"] (spTold a) := by
  have G_read := ok_read (P := P) (w := w) (base := base) T
  have sc : FnScope ["_law_made", "_law_bits", "_law_low", "e"] ["_law_made", "_law_bits", "_law_low"] (defScope (top 112)) := ⟨rfl, rfl, rfl, by decide +kernel, rfl, by decide +kernel, by decide +kernel⟩
  refine T._law_told.ok sc (fun vs H Q E h => ?_) (fun cdv A outer s H vs Q E hr h => ?_)
  · obtain ⟨e, t, z, low, m, wd, rfl, _⟩ := h; rfl
  · obtain ⟨e, t, z, low, m, wd, rfl, ED, hb, ht, k⟩ := h
    have hr7 : Room 7 _ := hr.mono (by decide)
    refine ⟨_, pss_one (ps_try_manyA (tb := fun W => tRet (tTup (tCons (tC (.str "read")) (tCons (tOp (rI0 fun i j => .int (i - j)) (tCallSD (spRead a) [.non] (WE W) (tCons (tVar 0) (tCons (tVar 1) tNil))) (tVar 2)) tNil)))) (Wout := fun _ _ _ _ => False) rfl rfl sc.nd takes0
      (fun W pn xe tk _ => pss_one (ps_ret (pe_tup (pa_cons pe_str (pa_cons (pe_op op_sub (by exact pe_callSD G_read hr7 rfl T.read.mg T.read.kp T.read.bd (.cons (show RelV V.non Value.none from rfl) .nil) (fun σ => passAt tk σ) (by exact pa_cons (pv 0) (pa_cons (pv 1) pa_nil))) (pv 2)) pa_nil)))))
      (HdsA.cons (i := 3) (ts := tsX K a.C 1 (tEx "bad" "at")) rfl rfl ⟨rfl, by decide, Or.inl (T.er 1 (by decide)).gl⟩ (fun x oe cls d pn hz hf => ?su1)
        (HdsA.cons (i := 3) (ts := tsX K a.C 2 (tEx "few" "due")) rfl rfl ⟨rfl, by decide, Or.inl (T.er 2 (by decide)).gl⟩ (fun x oe cls d pn hz hf => ?su2)
          (HdsA.cons (i := 3) (ts := tsX K a.C 3 (tEx "left" "at")) rfl rfl ⟨rfl, by decide, Or.inl (T.er 3 (by decide)).gl⟩ (fun x oe cls d pn hz hf => ?su3) .nil)))), ?_⟩
    case su1 =>
      refine ⟨fun pins s1 σ1 H1 D1 I1 h1 => ?_⟩
      obtain ⟨ec, kk⟩ := h1
      subst ec
      exact PSs.run (t := tEx "bad" "at" x d) (pss_one (ps_ret (pe_tup (pa_cons pe_str (pa_cons (pe_xP (T.er 1 (by decide)).is ((T.er 1 (by decide)).noA "at" (by decide)) List.mem_cons_self hz hf (pv 3)) pa_nil))))) pins s1 σ1 H1 D1 I1 (kk oe hz hf)
    case su2 =>
      refine ⟨fun pins s1 σ1 H1 D1 I1 h1 => ?_⟩
      obtain ⟨ec, kk⟩ := h1
      subst ec
      exact PSs.run (t := tEx "few" "due" x d) (pss_one (ps_ret (pe_tup (pa_cons pe_str (pa_cons (pe_xP (T.er 2 (by decide)).is ((T.er 2 (by decide)).noA "due" (by decide)) List.mem_cons_self hz hf (pv 3)) pa_nil))))) pins s1 σ1 H1 D1 I1 (kk oe hz hf)
    case su3 =>
      refine ⟨fun pins s1 σ1 H1 D1 I1 h1 => ?_⟩
      obtain ⟨ec, kk⟩ := h1
      subst ec
      exact PSs.run (t := tEx "left" "at" x d) (pss_one (ps_ret (pe_tup (pa_cons pe_str (pa_cons (pe_xP (T.er 3 (by decide)).is ((T.er 3 (by decide)).noA "at" (by decide)) List.mem_cons_self hz hf (pv 3)) pa_nil))))) pins s1 σ1 H1 D1 I1 (kk oe hz hf)
    walk_at "go"
    refine ⟨_, rfl, _, rfl, e, t, z, low, m, wd, rfl, ED, hb, ht, ?_⟩
    cases er : outR m wd t.cps.toList with
    | read n =>
      rw [er] at k
      intro H1 s1
      walk_at "go"
      rename_i q nq
      refine k q _ (Same.new s1 nq) ?_
      rw [upd_same]
      show _ = some (HO.tup [.str "read", .int (n : Int)])
      rw [show low + (n : Int) - low = (n : Int) by omega]
    | bad i =>
      rw [er] at k
      intro H1 d s1 nd
      refine ⟨_, (T.er 1 (by decide)).ex 1 (by decide), fun _ x nx => ⟨rfl, fun oe hz hf => ?_⟩, fun z => Bool.noConfusion z⟩
      unfold tEx
      walk_at "go"
      refine i_xp rfl rfl upd_same rfl ?_
      walk_at "go"
      rename_i q nq
      exact k q _ (fun b o eb => same_upd nq _ _ (same_upd nd _ _ (s1 b o eb))) upd_same
    | few n =>
      rw [er] at k
      intro H1 d s1 nd
      refine ⟨_, (T.er 2 (by decide)).ex 1 (by decide), fun z => Bool.noConfusion z, fun _ => ?_⟩
      refine ⟨_, (T.er 2 (by decide)).ex 2 (by decide), fun _ x nx => ⟨rfl, fun oe hz hf => ?_⟩, fun z => Bool.noConfusion z⟩
      unfold tEx
      walk_at "go"
      refine i_xp rfl rfl upd_same rfl ?_
      walk_at "go"
      rename_i q nq
      exact k q _ (fun b o eb => same_upd nq _ _ (same_upd nd _ _ (s1 b o eb))) upd_same
    | left i =>
      rw [er] at k
      intro H1 d s1 nd
      refine ⟨_, (T.er 3 (by decide)).ex 1 (by decide), fun z => Bool.noConfusion z, fun _ => ?_⟩
      refine ⟨_, (T.er 3 (by decide)).ex 2 (by decide), fun z => Bool.noConfusion z, fun _ => ?_⟩
      refine ⟨_, (T.er 3 (by decide)).ex 3 (by decide), fun _ x nx => ⟨rfl, fun oe hz hf => ?_⟩, fun z => Bool.noConfusion z⟩
      unfold tEx
      walk_at "go"
      refine i_xp rfl rfl upd_same rfl ?_
      walk_at "go"
      rename_i q nq
      exact k q _ (fun b o eb => same_upd nq _ _ (same_upd nd _ _ (s1 b o eb))) upd_same
end
end Me
set_option maxHeartbeats 8000000
namespace Me
open PySem L2


def resNum : Res → Nat
  | .few n => n
  | .bad i => i
  | .left u => u
  | .read n => n
theorem res_small {m : Nat} {wd : Option Nat} {l : List Nat} (h1 : 2 ≤ m) (h2 : m ≤ 2 ^ 60) (h3 : ∀ W, wd = some W → 1 ≤ W ∧ W ≤ 60 ∧ m ≤ 2 ^ W) (hb : allB l) (hl : l.length ≤ 100) : resNum (outR m wd l) < 2 ^ 100 := by
  obtain ⟨f1, f2, f3, f4⟩ := log2_facts h1 h2
  have e100 : (2 : Nat) ^ 100 = 1267650600228229401496703205376 := by decide
  have bt : ∀ k, Bn.binNum (l.take k) < 2 ^ 100 := fun k => Nat.lt_of_lt_of_le (binNum_lt _ fun c hc => hb c (List.mem_of_mem_take hc)) (pow_le (by rw [List.length_take]; omega))
  cases wd with
  | none =>
    rw [out_tight f1 f2 f3 hb]
    unfold dueT
    split
    · show _ - _ < _
      split <;> omega
    · split
      · split
        · show 1 < _; omega
        · split
          · show m.log2 + 1 < _; omega
          · show _ - _ < _
            have := bt (m.log2 + 1)
            omega
      · split
        · show m.log2 < _; omega
        · exact bt _
  | some W =>
    obtain ⟨w1, w2, w3⟩ := h3 W rfl
    rcases out_wide h1 w1 w3 hb with ⟨i, i1, _, _, _, e⟩ | ⟨_, e⟩
    · rw [e]; show i < _; omega
    · rw [e]
      unfold dueW
      split
      · show _ - _ < _; omega
      · split
        · show W < _; omega
        · exact bt _
theorem leaf_nat {n : Nat} (h : n < 2 ^ 100) : leafOk (.int (n : Int)) := by
  show (n : Int).natAbs.log2 < 1920
  rw [Int.natAbs_natCast]
  by_cases z : n = 0
  · subst z; decide
  · exact Nat.lt_of_lt_of_le ((Nat.log2_lt z).mpr h) (by decide)
theorem res_leaf {r : Res} (h : resNum r < 2 ^ 100) : (resV r).length ≤ 100 ∧ ∀ x ∈ resV r, leafOk x := by
  have l1 : leafOk (.str "few") := (show (reprText "few").length ≤ sizeLine by decide +kernel)
  have l2 : leafOk (.str "bad") := (show (reprText "bad").length ≤ sizeLine by decide +kernel)
  have l3 : leafOk (.str "left") := (show (reprText "left").length ≤ sizeLine by decide +kernel)
  have l4 : leafOk (.str "read") := (show (reprText "read").length ≤ sizeLine by decide +kernel)
  have g : ∀ {s : Str} {n : Nat}, leafOk (.str s) → n < 2 ^ 100 → ∀ x ∈ [V.str s, V.int (n : Int)], leafOk x := fun {s n} hs hn x hx => by
    simp only [List.mem_cons, List.mem_nil_iff, or_false] at hx
    rcases hx with rfl | rfl
    · exact hs
    · exact leaf_nat hn
  cases r with
  | few n => exact ⟨by show 2 ≤ 100; decide, g l1 h⟩
  | bad n => exact ⟨by show 2 ≤ 100; decide, g l2 h⟩
  | left n => exact ⟨by show 2 ≤ 100; decide, g l3 h⟩
  | read n => exact ⟨by show 2 ≤ 100; decide, g l4 h⟩
theorem Went.of_same {H H' : Hp} {p : Addr} (S : StOk H p) (s : Same H H') : Went p H H' := ⟨S.keep s, fun a o _ e => s a o e, fun L q => q.keep s⟩
theorem EdAt.went {a : Ad} {H H' : Hp} {p e : Addr} {z : Str} {low : Int} {m : Nat} {wd : Option Nat} (h : EdAt a H e z low m wd) (S : StOk H p) (w : Went p H H') : EdAt a H' e z low m wd := by
  obtain ⟨L, ns, i, b, c, hp, _⟩ := S
  have ki : ∀ {x C d : Addr} {fs : List (Str × V)}, H x = some (.ins C d fs) → H' x = some (.ins C d fs) := fun {x C d fs} e => w.2.1 _ _ (ne_of e hp (by intro z; cases z)) e
  have kd : ∀ {x : Addr} {kvs : List (Key × V)}, H x = some (.dK kvs) → H' x = some (.dK kvs) := fun {x kvs} e => w.2.1 _ _ (ne_of e hp (by intro z; cases z)) e
  obtain ⟨dx, d, q, n, x, e1, ⟨⟨pdx, c2, st, ct, nd, sh, e2, e3⟩, e4, ⟨⟨ndx, e5⟩, n1, n2, n3⟩, e6⟩⟩ := h
  refine ⟨dx, d, q, n, x, ki e1, ⟨⟨pdx, c2, st, ct, nd, sh, ki e2, kd e3⟩, kd e4, ⟨⟨ndx, ki e5⟩, n1, n2, n3⟩, ?_⟩⟩
  cases wd with
  | none => obtain ⟨dx, e⟩ := e6; exact ⟨dx, ki e⟩
  | some W => obtain ⟨dx, e⟩ := e6; exact ⟨dx, ki e⟩
section
variable {P : Program} {w : World} {K : PySem.W.Frag} {mg : Str → Option Value} {base : Heap} {a : Ad}
def spRows (a : Ad) : Sp := fun vs H Q _ => ∃ (p e : Addr) (z : Str) (low : Int) (m : Nat) (wd : Option Nat), vs = [.ref p, .ref e, .int low, .int (m : Int), wdV wd] ∧ StOk H p ∧ EdAt a H e z low m wd ∧ 2 ≤ m ∧ m ≤ 2 ^ 60 ∧ (∀ W, wd = some W → 1 ≤ W ∧ W ≤ 60 ∧ m ≤ 2 ^ W) ∧ ∀ H', Went p H H' → Q (.bl true) H'
theorem ok_rows (T : Txt P K mg a) : FnOk P w K mg base CX0 9 a._law_rows_hold.f a._law_rows_hold.fd ["_law_state", "_law_made", "_law_low", "_law_many", "_law_width"] (spRows a) := by
  have G__law_pull : FnOk P w K mg base CX0 1 a._law_pull.f a._law_pull.fd ["_law_state", "_law_many"] spPull := ok_pull T
  have G__law_big : FnOk P w K mg base CX0 2 a._law_big.f a._law_big.fd ["_law_state", "_law_many"] spBig := ok_big T
  have G__law_binary : FnOk P w K mg base CX0 1 a._law_binary.f a._law_binary.fd ["_law_number", "_law_many"] spBinary := ok_binary T
  have G__law_told := ok_told (P := P) (w := w) (base := base) T
  have G__law_due : FnOk P w K mg base CX0 2 a._law_due.f a._law_due.fd ["_law_many", "_law_width", "_law_bits"] spDue := ok_due_t T
  have G__law_same : FnOk P w K mg base CX0 2 a._law_same.f a._law_same.fd ["_law_told_here", "_law_due_here"] spTups := ok_tups T
  have sc : FnScope ["_law_state", "_law_made", "_law_low", "_law_many", "_law_width", "_law_size", "_law_k", "_law_bits"] ["_law_state", "_law_made", "_law_low", "_law_many", "_law_width"] (defScope (top 115)) := ⟨rfl, rfl, rfl, by decide +kernel, rfl, by decide +kernel, by decide +kernel⟩
  refine T._law_rows_hold.ok sc (fun vs H Q E h => ?_) (fun cdv A outer s H vs Q E hr h => ?_)
  · obtain ⟨p, e, z, low, m, wd, rfl, _⟩ := h; rfl
  · obtain ⟨p, e, z, low, m, wd, rfl, S, ED, h1, h2, h3, k⟩ := h
    have hl : m.log2 < 61 := (Nat.log2_lt (by omega)).mpr (Nat.lt_of_le_of_lt h2 (by decide))
    refine ⟨_, (pss_cons (ps_set (i := 5) sc.nd rfl (by first | exact Or.inl rfl | exact Or.inr rfl) (pe_op op_add (pe_bits (pv 3)) pe_int))
      (pss_cons (ps_if (pt_cmpR op_notN (pv 4) pe_non (nomark _))
      (pss_one (ps_set (i := 5) sc.nd rfl (by first | exact Or.inl rfl | exact Or.inr rfl) (pe_op op_add (pv 4) pe_int)))
      pss_nil)
      (pss_cons (ps_for PassesOwn.never rfl (pi_range1 rfl T.range (pa_cons pe_int pa_nil)) (pg_name (i := 6) sc.nd rfl (by first | exact Or.inl rfl | exact Or.inr rfl))
      (pss_cons (ps_set (i := 7) sc.nd rfl (by first | exact Or.inl rfl | exact Or.inr rfl) (pe_call G__law_binary (hr.mono (by first | decide | omega)) rfl T._law_binary.mg T._law_binary.kp T._law_binary.b .nil pass0 (pa_cons (pe_call G__law_big (hr.mono (by first | decide | omega)) rfl T._law_big.mg T._law_big.kp T._law_big.b .nil pass0 (pa_cons (pv 0) (pa_cons (pe_op op_shl pe_int (pv 5)) pa_nil))) (pa_cons (pv 5) pa_nil))))
      (pss_cons (ps_if (pt_cmpR op_lt (pv 6) pe_int (nomark _))
      (pss_one (ps_set (i := 7) sc.nd rfl (by first | exact Or.inl rfl | exact Or.inr rfl) (pe_op op_mulS pe_str (pe_call G__law_pull (hr.mono (by first | decide | omega)) rfl T._law_pull.mg T._law_pull.kp T._law_pull.b .nil pass0 (pa_cons (pv 0) (pa_cons (pe_op op_add (pv 5) pe_int) pa_nil))))))
      pss_nil)
      (pss_cons (ps_set (i := 7) sc.nd rfl (by first | exact Or.inl rfl | exact Or.inr rfl) (pe_slice sl_str (pv 7) po_none (po_some (pe_call G__law_pull (hr.mono (by first | decide | omega)) rfl T._law_pull.mg T._law_pull.kp T._law_pull.b .nil pass0 (pa_cons (pv 0) (pa_cons (pe_op op_add (pv 5) pe_int) pa_nil))))))
      (pss_one (ps_if (pt_not (pt_val (pe_call G__law_same (hr.mono (by first | decide | omega)) rfl T._law_same.mg T._law_same.kp T._law_same.b .nil pass0 (pa_cons (pe_call G__law_told (hr.mono (by first | decide | omega)) rfl T._law_told.mg T._law_told.kp T._law_told.b .nil pass0 (pa_cons (pv 1) (pa_cons (pv 7) (pa_cons (pv 2) pa_nil)))) (pa_cons (pe_call G__law_due (hr.mono (by first | decide | omega)) rfl T._law_due.mg T._law_due.kp T._law_due.b .nil pass0 (pa_cons (pv 3) (pa_cons (pv 4) (pa_cons (pv 7) pa_nil)))) pa_nil)))))
      (pss_one (ps_ret pe_bl))
      pss_nil))))))
      (pss_one (ps_ret pe_bl))))), ?_⟩
    walk_at "go"
    refine i_bits1 rfl (by omega) ?_
    walk_at "go"
    cases wd with
    | none =>
      dsimp only [wdV]
      refine ⟨rfl, _, rfl, i_no rfl ?_⟩
      walk_at "go"
      obtain ⟨sz, hsz⟩ : ∃ sz : Nat, sz = m.log2 + 3 := ⟨_, rfl⟩
      rw [show ((m.log2 + 1 : Nat) : Int) + 2 = (sz : Int) by omega]
      have sz63 : sz ≤ 63 := by omega
      have sz1 : 1 ≤ sz := by omega
      clear hsz
      walk_at "go"
      refine ⟨8, rfl, by decide, by decide, for_range (n := 8) (fun i σ' G => Went p H G ∧ ∃ v6 v7, σ' = [some (.ref p), some (.ref e), some (.int low), some (.int (m : Int)), some V.non, some (.int (sz : Int)), v6, v7]) ⟨Went.rfl' S, none, none, rfl⟩ ?_ ?_⟩
      · rintro i σ' G hi ⟨W1, v6, v7, rfl⟩
        walk_at "go"
        refine ⟨p, _, rfl, W1.1, by rw [shl_one]; have := Nat.two_pow_pos sz; omega, fun r2 G2 r20 r21 W2 => ?_⟩
        obtain ⟨n2, rfl⟩ := Int.eq_ofNat_of_zero_le r20
        walk_at "go"
        refine ⟨n2, sz, rfl, by omega, ?_⟩
        walk_at "go"
        have W12 := W1.trans W2
        have hb2 : allB (bitS n2 sz).cps.toList := bitsL_B n2 sz
        have l2 : (bitS n2 sz).length ≤ 100 := by rw [bitS_len]; omega
        refine i_itd (fun hk => ?_) (fun hk => ?_)
        · walk_at "go"
          refine ⟨p, _, rfl, W12.1, by omega, by omega, fun r3 G3 r30 r31 W3 => ?_⟩
          obtain ⟨n3, rfl⟩ := Int.eq_ofNat_of_zero_le r30
          refine ⟨49, n3, rfl, rfl, by omega, ?_⟩
          have W4 := W12.trans W3
          have hb : allB (⟨(List.replicate n3 49).toArray⟩ : Str).cps.toList := fun c hc => .inr (List.eq_of_mem_replicate hc)
          have lt : (⟨(List.replicate n3 49).toArray⟩ : Str).length ≤ 100 := by
            rw [← len_l]
            show (List.replicate n3 49).length ≤ 100
            rw [List.length_replicate]; omega
          generalize (⟨(List.replicate n3 49).toArray⟩ : Str) = t at hb lt ⊢
          walk_at "go"
          refine ⟨_, rfl, ?_⟩
          refine i_nopart ?_
          refine i_part ?_
          walk_at "go"
          refine ⟨p, _, rfl, W4.1, by omega, by omega, fun r5 G5 r50 r51 W5 => ?_⟩
          obtain ⟨n5, rfl⟩ := Int.eq_ofNat_of_zero_le r50
          refine ⟨_, rfl, t, rfl, Nat.le_trans lt (show 100 ≤ sizeLine by decide), ?_⟩
          have bt : allB (cutS t none (some (n5 : Int))).cps.toList := by
            rw [tl_to]; exact fun c hc => hb c (List.mem_of_mem_take hc)
          have l5 : (cutS t none (some (n5 : Int))).length ≤ 100 := by
            rw [← len_l, tl_to, List.length_take, len_l]; omega
          show gName 7 (V.str (cutS t none (some (n5 : Int)))) _ _ _
          generalize cutS t none (some (n5 : Int)) = t5 at bt l5 ⊢
          have W05 := W4.trans W5
          have ED5 := ED.went S W05
          have S5 := W05.1
          walk_at "go"
          refine ⟨e, t5, z, low, m, none, rfl, ED5, bt, l5, fun q6 G6 s6 hq6 => ?_⟩
          walk_at "go"
          refine ⟨m, none, t5, rfl, h1, h2, h3, bt, l5, fun q7 G7 s7 hq7 => ?_⟩
          obtain ⟨rl, rf⟩ := res_leaf (res_small (wd := none) h1 h2 h3 bt l5)
          walk_at "go"
          refine ⟨q6, q7, _, rfl, s7 _ _ hq6, hq7, rl, rf, fun G8 s8 => ?_⟩
          refine ⟨_, rfl, i_no rfl ?_⟩
          have W8 := W05.trans (Went.of_same S5 (fun b o eb => s8 _ _ (s7 _ _ (s6 _ _ eb))))
          exact ⟨W8, _, _, rfl⟩
        · walk_at "go"
          have W4 := W12
          have hb := hb2
          have lt := l2
          generalize bitS n2 sz = t at hb lt ⊢
          walk_at "go"
          refine ⟨_, rfl, ?_⟩
          refine i_nopart ?_
          refine i_part ?_
          walk_at "go"
          refine ⟨p, _, rfl, W4.1, by omega, by omega, fun r5 G5 r50 r51 W5 => ?_⟩
          obtain ⟨n5, rfl⟩ := Int.eq_ofNat_of_zero_le r50
          refine ⟨_, rfl, t, rfl, Nat.le_trans lt (show 100 ≤ sizeLine by decide), ?_⟩
          have bt : allB (cutS t none (some (n5 : Int))).cps.toList := by
            rw [tl_to]; exact fun c hc => hb c (List.mem_of_mem_take hc)
          have l5 : (cutS t none (some (n5 : Int))).length ≤ 100 := by
            rw [← len_l, tl_to, List.length_take, len_l]; omega
          show gName 7 (V.str (cutS t none (some (n5 : Int)))) _ _ _
          generalize cutS t none (some (n5 : Int)) = t5 at bt l5 ⊢
          have W05 := W4.trans W5
          have ED5 := ED.went S W05
          have S5 := W05.1
          walk_at "go"
          refine ⟨e, t5, z, low, m, none, rfl, ED5, bt, l5, fun q6 G6 s6 hq6 => ?_⟩
          walk_at "go"
          refine ⟨m, none, t5, rfl, h1, h2, h3, bt, l5, fun q7 G7 s7 hq7 => ?_⟩
          obtain ⟨rl, rf⟩ := res_leaf (res_small (wd := none) h1 h2 h3 bt l5)
          walk_at "go"
          refine ⟨q6, q7, _, rfl, s7 _ _ hq6, hq7, rl, rf, fun G8 s8 => ?_⟩
          refine ⟨_, rfl, i_no rfl ?_⟩
          have W8 := W05.trans (Went.of_same S5 (fun b o eb => s8 _ _ (s7 _ _ (s6 _ _ eb))))
          exact ⟨W8, _, _, rfl⟩
      · rintro σ' G ⟨W1, v6, v7, rfl⟩
        walk_at "go"
        exact k G W1
    | some W =>
      obtain ⟨w1, w2, w3⟩ := h3 W rfl
      dsimp only [wdV]
      refine ⟨rfl, _, rfl, i_yes rfl ?_⟩
      walk_at "go"
      obtain ⟨sz, hsz⟩ : ∃ sz : Nat, sz = W + 1 := ⟨_, rfl⟩
      rw [show (W : Int) + 1 = (sz : Int) by omega]
      have sz63 : sz ≤ 63 := by omega
      have sz1 : 1 ≤ sz := by omega
      clear hsz
      walk_at "go"
      refine ⟨8, rfl, by decide, by decide, for_range (n := 8) (fun i σ' G => Went p H G ∧ ∃ v6 v7, σ' = [some (.ref p), some (.ref e), some (.int low), some (.int (m : Int)), some (V.int (W : Int)), some (.int (sz : Int)), v6, v7]) ⟨Went.rfl' S, none, none, rfl⟩ ?_ ?_⟩
      · rintro i σ' G hi ⟨W1, v6, v7, rfl⟩
        walk_at "go"
        refine ⟨p, _, rfl, W1.1, by rw [shl_one]; have := Nat.two_pow_pos sz; omega, fun r2 G2 r20 r21 W2 => ?_⟩
        obtain ⟨n2, rfl⟩ := Int.eq_ofNat_of_zero_le r20
        walk_at "go"
        refine ⟨n2, sz, rfl, by omega, ?_⟩
        walk_at "go"
        have W12 := W1.trans W2
        have hb2 : allB (bitS n2 sz).cps.toList := bitsL_B n2 sz
        have l2 : (bitS n2 sz).length ≤ 100 := by rw [bitS_len]; omega
        refine i_itd (fun hk => ?_) (fun hk => ?_)
        · walk_at "go"
          refine ⟨p, _, rfl, W12.1, by omega, by omega, fun r3 G3 r30 r31 W3 => ?_⟩
          obtain ⟨n3, rfl⟩ := Int.eq_ofNat_of_zero_le r30
          refine ⟨49, n3, rfl, rfl, by omega, ?_⟩
          have W4 := W12.trans W3
          have hb : allB (⟨(List.replicate n3 49).toArray⟩ : Str).cps.toList := fun c hc => .inr (List.eq_of_mem_replicate hc)
          have lt : (⟨(List.replicate n3 49).toArray⟩ : Str).length ≤ 100 := by
            rw [← len_l]
            show (List.replicate n3 49).length ≤ 100
            rw [List.length_replicate]; omega
          generalize (⟨(List.replicate n3 49).toArray⟩ : Str) = t at hb lt ⊢
          walk_at "go"
          refine ⟨_, rfl, ?_⟩
          refine i_nopart ?_
          refine i_part ?_
          walk_at "go"
          refine ⟨p, _, rfl, W4.1, by omega, by omega, fun r5 G5 r50 r51 W5 => ?_⟩
          obtain ⟨n5, rfl⟩ := Int.eq_ofNat_of_zero_le r50
          refine ⟨_, rfl, t, rfl, Nat.le_trans lt (show 100 ≤ sizeLine by decide), ?_⟩
          have bt : allB (cutS t none (some (n5 : Int))).cps.toList := by
            rw [tl_to]; exact fun c hc => hb c (List.mem_of_mem_take hc)
          have l5 : (cutS t none (some (n5 : Int))).length ≤ 100 := by
            rw [← len_l, tl_to, List.length_take, len_l]; omega
          show gName 7 (V.str (cutS t none (some (n5 : Int)))) _ _ _
          generalize cutS t none (some (n5 : Int)) = t5 at bt l5 ⊢
          have W05 := W4.trans W5
          have ED5 := ED.went S W05
          have S5 := W05.1
          walk_at "go"
          refine ⟨e, t5, z, low, m, (some W), rfl, ED5, bt, l5, fun q6 G6 s6 hq6 => ?_⟩
          walk_at "go"
          refine ⟨m, (some W), t5, rfl, h1, h2, h3, bt, l5, fun q7 G7 s7 hq7 => ?_⟩
          obtain ⟨rl, rf⟩ := res_leaf (res_small (wd := (some W)) h1 h2 h3 bt l5)
          walk_at "go"
          refine ⟨q6, q7, _, rfl, s7 _ _ hq6, hq7, rl, rf, fun G8 s8 => ?_⟩
          refine ⟨_, rfl, i_no rfl ?_⟩
          have W8 := W05.trans (Went.of_same S5 (fun b o eb => s8 _ _ (s7 _ _ (s6 _ _ eb))))
          exact ⟨W8, _, _, rfl⟩
        · walk_at "go"
          have W4 := W12
          have hb := hb2
          have lt := l2
          generalize bitS n2 sz = t at hb lt ⊢
          walk_at "go"
          refine ⟨_, rfl, ?_⟩
          refine i_nopart ?_
          refine i_part ?_
          walk_at "go"
          refine ⟨p, _, rfl, W4.1, by omega, by omega, fun r5 G5 r50 r51 W5 => ?_⟩
          obtain ⟨n5, rfl⟩ := Int.eq_ofNat_of_zero_le r50
          refine ⟨_, rfl, t, rfl, Nat.le_trans lt (show 100 ≤ sizeLine by decide), ?_⟩
          have bt : allB (cutS t none (some (n5 : Int))).cps.toList := by
            rw [tl_to]; exact fun c hc => hb c (List.mem_of_mem_take hc)
          have l5 : (cutS t none (some (n5 : Int))).length ≤ 100 := by
            rw [← len_l, tl_to, List.length_take, len_l]; omega
          show gName 7 (V.str (cutS t none (some (n5 : Int)))) _ _ _
          generalize cutS t none (some (n5 : Int)) = t5 at bt l5 ⊢
          have W05 := W4.trans W5
          have ED5 := ED.went S W05
          have S5 := W05.1
          walk_at "go"
          refine ⟨e, t5, z, low, m, (some W), rfl, ED5, bt, l5, fun q6 G6 s6 hq6 => ?_⟩
          walk_at "go"
          refine ⟨m, (some W), t5, rfl, h1, h2, h3, bt, l5, fun q7 G7 s7 hq7 => ?_⟩
          obtain ⟨rl, rf⟩ := res_leaf (res_small (wd := (some W)) h1 h2 h3 bt l5)
          walk_at "go"
          refine ⟨q6, q7, _, rfl, s7 _ _ hq6, hq7, rl, rf, fun G8 s8 => ?_⟩
          refine ⟨_, rfl, i_no rfl ?_⟩
          have W8 := W05.trans (Went.of_same S5 (fun b o eb => s8 _ _ (s7 _ _ (s6 _ _ eb))))
          exact ⟨W8, _, _, rfl⟩
      · rintro σ' G ⟨W1, v6, v7, rfl⟩
        walk_at "go"
        exact k G W1
end
end Me
set_option maxHeartbeats 8000000
namespace Me
open PySem L2


theorem i_lcl {K : PySem.W.Frag} {tl : TE} {g : TG} {tt : TT} {te : TE} {vs : List Nat} {σ : L2.St} {H : Hp} {Q : VK} (q : tl σ H fun x H1 => ∃ a, x = .ref a ∧ (∃ xs, SqL K H1 a xs) ∧ tLc (fun _ H' R => R (Itl K a) H') g tt te vs σ H1 Q) : tLc (iList K tl) g tt te vs σ H Q := q
theorem i_forl {K : PySem.W.Frag} {tl : TE} {g : TG} {tb : TS} {D : Ends} {σ : L2.St} {H : Hp} (q : tl σ H fun x H1 => ∃ a, x = .ref a ∧ (∃ xs, SqL K H1 a xs) ∧ tFor (fun _ H' R => R (Itl K a) H') g tb D σ H1) : tFor (iList K tl) g tb D σ H := q
theorem nthV_int {low : Int} {m n : Nat} (h : n < m) : nthV low m (.int (low + n)) = some n := by
  show (if low ≤ low + (n : Int) ∧ low + (n : Int) < low + m then some (low + n - low).toNat else none) = _
  rw [if_pos (by omega)]
  congr 1; omega
theorem codeS_L (m n : Nat) (wd : Option Nat) : (codeS m wd n).cps.toList = codeL m wd n := by
  cases wd with
  | some W => rfl
  | none =>
    unfold codeS codeL
    dsimp only
    split <;> rfl
theorem codeL_B (m n : Nat) (wd : Option Nat) : allB (codeL m wd n) := by
  cases wd with
  | some W => exact bitsL_B _ _
  | none =>
    unfold codeL
    dsimp only
    split <;> exact bitsL_B _ _
theorem leaf_bits {x : Str} (h : allB x.cps.toList) (hl : x.length ≤ 100) : leafOk (.str x) := by
  have := PySem.StrLaws.reprText_len x (fun c hc => by
    have := h c hc
    rcases this with rfl | rfl <;> decide)
  have e := (show 1002 ≤ sizeLine by decide)
  show (reprText x).length ≤ sizeLine
  omega
theorem leaf_int {low : Int} {m n : Nat} (hl : low.natAbs < 2 ^ 300) (h2 : m ≤ 2 ^ 60) (hn : n < m) : leafOk (.int (low + n)) := by
  show (low + n).natAbs.log2 < 1920
  by_cases z : (low + n).natAbs = 0
  · rw [z]; decide
  · have e1 : (2 : Nat) ^ 60 ≤ 2 ^ 300 := pow_le (by decide)
    have e2 : (2 : Nat) ^ 301 = 2 * 2 ^ 300 := by rw [Nat.pow_succ, Nat.mul_comm]
    have : (low + n).natAbs < 2 ^ 301 := by
      rw [e2]
      omega
    exact Nat.lt_of_lt_of_le ((Nat.log2_lt z).mpr this) (by decide)
theorem Th.went {H H' : Hp} {p : Addr} {v : V} (h : Th H v) (ne : v ≠ .ref p) (w : Went p H H') : Th H' v := by
  have g : ∀ {a : Addr} {o : HO}, v = .ref a → H a = some o → H' a = some o := fun {a o} e q => w.2.1 _ _ (fun z => ne (by rw [e, z])) q
  cases h with
  | non => exact .non
  | bl b => exact .bl b
  | int i => exact .int i
  | str x => exact .str x
  | tup h => exact .tup (g rfl h)
  | lst h => exact .lst (g rfl h)
  | dK h => exact .dK (g rfl h)
def intV (k : Nat) : V := .int (k : Int)
section
variable {P : Program} {w : World} {K : PySem.W.Frag} {mg : Str → Option Value} {base : Heap} {a : Ad}
def spVals (a : Ad) : Sp := fun vs H Q _ => ∃ (p e : Addr) (z : Str) (low : Int) (m : Nat) (wd : Option Nat), vs = [.ref p, .ref e, .int low, .int (m : Int), wdV wd] ∧ StOk H p ∧ EdAt a H e z low m wd ∧ 2 ≤ m ∧ m ≤ 2 ^ 60 ∧ (∀ W, wd = some W → 1 ≤ W ∧ W ≤ 60 ∧ m ≤ 2 ^ W) ∧ low.natAbs < 2 ^ 300 ∧ ∀ H', Went p H H' → Q (.bl true) H'
theorem ok_vals (T : Txt P K mg a) : FnOk P w K mg base CX0 9 a._law_values_hold.f a._law_values_hold.fd ["_law_state", "_law_made", "_law_low", "_law_many", "_law_width"] (spVals a) := by
  have G__law_big : FnOk P w K mg base CX0 2 a._law_big.f a._law_big.fd ["_law_state", "_law_many"] spBig := ok_big T
  have G__law_code : FnOk P w K mg base CX0 2 a._law_code.f a._law_code.fd ["_law_many", "_law_width", "_law_number"] spCode := ok_code T
  have G_is_value := ok_is_value (P := P) (w := w) (base := base) T
  have G_written := ok_written (P := P) (w := w) (base := base) T
  have G_read := ok_read (P := P) (w := w) (base := base) T
  have G__law_same : FnOk P w K mg base CX0 1 a._law_same.f a._law_same.fd ["_law_told_here", "_law_due_here"] spLeaf := ok_leaf T
  have G_tups : FnOk P w K mg base CX0 2 a._law_same.f a._law_same.fd ["_law_told_here", "_law_due_here"] spTups := ok_tups T
  have G__law_refused := ok_refused (P := P) (w := w) (base := base) T
  have sc : FnScope ["_law_state", "_law_made", "_law_low", "_law_many", "_law_width", "_law_numbers", "_law_bar", "_law_k", "_law_number", "_law_bits", "_law_value"] ["_law_state", "_law_made", "_law_low", "_law_many", "_law_width"] (defScope (top 114)) := ⟨rfl, rfl, rfl, by decide +kernel, rfl, by decide +kernel, by decide +kernel⟩
  refine T._law_values_hold.ok sc (fun vs H Q E h => ?_) (fun cdv A outer s H vs Q E hr h => ?_)
  · obtain ⟨p, e, z, low, m, wd, rfl, _⟩ := h; rfl
  · obtain ⟨p, e, z, low, m, wd, rfl, S, ED, h1, h2, h3, hlow, k⟩ := h
    have hl : m.log2 < 61 := (Nat.log2_lt (by omega)).mpr (Nat.lt_of_le_of_lt h2 (by decide))
    refine ⟨_, (pss_cons (ps_set (i := 5) sc.nd rfl (by first | exact Or.inl rfl | exact Or.inr rfl) (pe_lst (pa_cons pe_int (pa_cons (pe_op op_sub (pv 3) pe_int) (pa_cons (pe_call G__law_big (hr.mono (by first | decide | omega)) rfl T._law_big.mg T._law_big.kp T._law_big.b .nil pass0 (pa_cons (pv 0) (pa_cons (pv 3) pa_nil))) (pa_cons (pe_call G__law_big (hr.mono (by first | decide | omega)) rfl T._law_big.mg T._law_big.kp T._law_big.b .nil pass0 (pa_cons (pv 0) (pa_cons (pv 3) pa_nil))) pa_nil))))))
      (pss_cons (ps_set (i := 6) sc.nd rfl (by first | exact Or.inl rfl | exact Or.inr rfl) (pe_op op_sub (pe_op op_shl pe_int (pe_bits (pv 3))) (pv 3)))
      (pss_cons (ps_expr (pe_bm PySem.F.plainAttrs_list PySem.F.slot_list_extend PySem.F.type_list_extend mt_extend (pv 5) (pa_cons (pe_lc (own := [("_law_k", 7)]) (g := gName 7) (by rfl) sc.nd (pi_list (pe_lst (pa_cons (pe_op op_sub (pv 6) pe_int) (pa_cons (pv 6) (pa_cons (pe_op op_add (pv 6) pe_int) pa_nil))))) (blkOk_by (own := [("_law_k", 7)]) (N := ["_law_state", "_law_made", "_law_low", "_law_many", "_law_width", "_law_numbers", "_law_bar", "_law_k", "_law_number", "_law_bits", "_law_value"]) (sc := defScope (top 114)) (by decide +kernel)) (fun _ _ _ _ _ => pg_name (i := 7) sc.nd rfl (Or.inl rfl)) (fun _ _ _ _ _ => (pts_one (PW.pt (pw_and (pt_cmpR op_le pe_int (pv 7) (nomark _)) (pw_and1 (pt_cmpR op_lt (pv 7) (pv 3) (nomark _))))))) (fun _ _ _ _ _ => (by exact (pv 7)))) pa_nil)))
      (pss_cons (ps_for PassesOwn.never rfl (pi_list (pv 5)) (pg_name (i := 8) sc.nd rfl (by first | exact Or.inl rfl | exact Or.inr rfl))
      (pss_cons (ps_set (i := 9) sc.nd rfl (by first | exact Or.inl rfl | exact Or.inr rfl) (pe_call G__law_code (hr.mono (by first | decide | omega)) rfl T._law_code.mg T._law_code.kp T._law_code.b .nil pass0 (pa_cons (pv 3) (pa_cons (pv 4) (pa_cons (pv 8) pa_nil)))))
      (pss_cons (ps_if (PW.pt (pw_or (pt_cmpR op_isnot_bl (pe_call G_is_value (hr.mono (by decide)) rfl T.is_value.mg T.is_value.kp T.is_value.bd (.cons (show RelV V.non Value.none from rfl) .nil) pass0 (pa_cons (pv 1) (pa_cons (pe_op op_add (pv 2) (pv 8)) pa_nil))) pe_bl (nomark _)) (pw_or1 (pt_not (pt_val (pe_call G__law_same (hr.mono (by first | decide | omega)) rfl T._law_same.mg T._law_same.kp T._law_same.b .nil pass0 (pa_cons (pe_call G_written (hr.mono (by decide)) rfl T.written.mg T.written.kp T.written.bd (.cons (show RelV V.non Value.none from rfl) .nil) passL' (pa_cons (pv 1) (pa_cons (pe_op op_add (pv 2) (pv 8)) pa_nil))) (pa_cons (pv 9) pa_nil))))))))
      (pss_one (ps_ret pe_bl))
      pss_nil)
      (pss_one (ps_if (pt_not (pt_val (pe_call G__law_same (hr.mono (by first | decide | omega)) rfl T._law_same.mg T._law_same.kp T._law_same.b .nil pass0 (pa_cons (pe_call G_read (hr.mono (by decide)) rfl T.read.mg T.read.kp T.read.bd (.cons (show RelV V.non Value.none from rfl) .nil) passL' (pa_cons (pv 1) (pa_cons (pv 9) pa_nil))) (pa_cons (pe_op op_add (pv 2) (pv 8)) pa_nil)))))
      (pss_one (ps_ret pe_bl))
      pss_nil)))))
      (pss_cons (ps_for PassesOwn.never rfl (pi_list (pe_lst (pa_cons (pe_op op_sub (pv 2) pe_int) (pa_cons (pe_op op_add (pv 2) (pv 3)) (pa_cons pe_non (pa_cons pe_str (pa_cons (pe_lst (pa_cons (pv 2) pa_nil)) (pa_cons (pe_tup (pa_cons (pv 2) pa_nil)) (pa_cons pe_bl (pa_cons pe_dnewK (pa_cons (pe_op op_sub (pe_op op_sub (pv 2) pe_int) (pe_call G__law_big (hr.mono (by first | decide | omega)) rfl T._law_big.mg T._law_big.kp T._law_big.b .nil pass0 (pa_cons (pv 0) (pa_cons (pe_op op_pow pe_int pe_int) pa_nil)))) pa_nil))))))))))) (pg_name (i := 10) sc.nd rfl (by first | exact Or.inl rfl | exact Or.inr rfl))
      (pss_one (ps_if (PW.pt (pw_or (pt_cmpR op_isnot_bl (pe_call G_is_value (hr.mono (by decide)) rfl T.is_value.mg T.is_value.kp T.is_value.bd (.cons (show RelV V.non Value.none from rfl) .nil) pass0 (pa_cons (pv 1) (pa_cons (pv 10) pa_nil))) pe_bl (nomark _)) (pw_or1 (pt_not (pt_val (pe_call G_tups (hr.mono (by decide)) rfl T._law_same.mg T._law_same.kp T._law_same.b .nil pass0 (pa_cons (pe_call G__law_refused (hr.mono (by decide)) rfl T._law_refused.mg T._law_refused.kp T._law_refused.b .nil pass0 (pa_cons (pv 1) (pa_cons (pv 10) pa_nil))) (pa_cons (pe_tup pa_nil) pa_nil))))))))
      (pss_one (ps_ret pe_bl))
      pss_nil)))
      (pss_one (ps_ret pe_bl))))))), ?_⟩
    walk_at "go"
    refine ⟨p, m, rfl, S, by omega, fun r1 H1 a1 b1 W1 => ?_⟩
    obtain ⟨n1, rfl⟩ := Int.eq_ofNat_of_zero_le a1
    walk_at "go"
    refine ⟨p, m, rfl, W1.1, by omega, fun r2 H2 a2 b2 W2 => ?_⟩
    obtain ⟨n2, rfl⟩ := Int.eq_ofNat_of_zero_le a2
    have W12 := W1.trans W2
    walk_at "go"
    rename_i L nL
    have W3 := W12.new (o := .lst [.int 0, .int ((m : Int) - 1), .int (n1 : Int), .int (n2 : Int)]) nL
    have hL : upd H2 L (.lst [.int 0, .int ((m : Int) - 1), .int (n1 : Int), .int (n2 : Int)]) L = some (.lst (([0, m - 1, n1, n2] : List Nat).map intV)) := by
      rw [upd_same]
      show _ = some (HO.lst [V.int ((0 : Nat) : Int), .int ((m - 1 : Nat) : Int), .int (n1 : Int), .int (n2 : Int)])
      rw [show ((m - 1 : Nat) : Int) = (m : Int) - 1 by omega]; rfl
    have nLp : L ≠ p := S.ne (W12.none nL (W12.1.ne nL))
    generalize upd H2 L (.lst [.int 0, .int ((m : Int) - 1), .int (n1 : Int), .int (n2 : Int)]) = H3 at W3 hL ⊢
    have hks : ∀ k ∈ ([0, m - 1, n1, n2] : List Nat), k < m := by
      intro k hk
      simp only [List.mem_cons, List.mem_nil_iff, or_false] at hk
      rcases hk with rfl | rfl | rfl | rfl <;> omega
    have hkl : ([0, m - 1, n1, n2] : List Nat).length = 4 := rfl
    generalize ([0, m - 1, n1, n2] : List Nat) = ks at hL hks hkl
    refine i_bits1 rfl (by omega) ?_
    walk_at "go"
    have lt := Nat.lt_log2_self (n := m)
    have e2 : (1 : Int) * 2 ^ ((m.log2 + 1 : Nat) : Int).toNat = ((2 ^ (m.log2 + 1) : Nat) : Int) := shl_one (m.log2 + 1)
    rw [e2]
    have es : ((2 ^ (m.log2 + 1) : Nat) : Int) - (m : Int) = ((shortN m : Nat) : Int) := by unfold shortN; omega
    rw [es]
    have hs1 : 1 ≤ shortN m := by unfold shortN; omega
    refine ⟨_, rfl, .inl ⟨rfl, _, SqL.of hL⟩, ?_⟩
    refine i_cons ?_
    refine i_lcl ?_
    walk_at "go"
    rename_i B nB
    have W4 := W3.new (o := .lst [.int ((shortN m : Int) - 1), .int (shortN m : Int), .int ((shortN m : Int) + 1)]) nB
    have hB : upd H3 B (.lst [.int ((shortN m : Int) - 1), .int (shortN m : Int), .int ((shortN m : Int) + 1)]) B = some (.lst (([shortN m - 1, shortN m, shortN m + 1] : List Nat).map intV)) := by
      rw [upd_same]
      show _ = some (HO.lst [V.int ((shortN m - 1 : Nat) : Int), .int (shortN m : Int), .int ((shortN m + 1 : Nat) : Int)])
      rw [show ((shortN m - 1 : Nat) : Int) = (shortN m : Int) - 1 by omega]; rfl
    have hL4 := same_upd (o := .lst [.int ((shortN m : Int) - 1), .int (shortN m : Int), .int ((shortN m : Int) + 1)]) nB _ _ hL
    generalize upd H3 B (.lst [.int ((shortN m : Int) - 1), .int (shortN m : Int), .int ((shortN m : Int) + 1)]) = H4 at W4 hB hL4 ⊢
    have hbl : ([shortN m - 1, shortN m, shortN m + 1] : List Nat).length = 3 := rfl
    generalize ([shortN m - 1, shortN m, shortN m + 1] : List Nat) = bs at hB hbl
    refine ⟨B, rfl, ⟨_, SqL.of hB⟩, fun D nD => ?_⟩
    refine lc_list (K := K) (a := B) (xs := bs.map intV) (fun i G => Same H4 G ∧ ∃ js : List Nat, js.length ≤ i ∧ (∀ k ∈ js, k < m) ∧ G D = some (.lst (js.map intV))) ⟨same_upd nD, [], Nat.le_refl _, fun _ h => absurd h List.not_mem_nil, upd_same⟩ (fun i G _ h => SqL.of (h.1 _ _ hB)) (fun i y G hy h => ?_) (fun G h => ?_)
    · obtain ⟨s5, js, jl, jm, hD⟩ := h
      obtain ⟨b, hb, rfl⟩ : ∃ b : Nat, bs[i]? = some b ∧ V.int (b : Int) = y := by
        rw [List.getElem?_map] at hy
        cases hb : bs[i]? with
        | none => rw [hb] at hy; cases hy
        | some b => rw [hb] at hy; exact ⟨b, rfl, Option.some.inj hy⟩
      refine ⟨rfl, ?_⟩
      walk_at "go"
      refine i_itd (fun _ => ?_) (fun h => absurd (by omega) h)
      walk_at "go"
      refine i_itd (fun hlt => ?_) (fun _ => ?_)
      · refine ⟨_, rfl, js.map intV, hD, ?_, fun b o e => ?_, js ++ [b], ?_, fun k hk => ?_, ?_⟩
        · rw [List.length_map]
          have := (show 100 < sizeLine by decide)
          have := (List.getElem?_eq_some_iff.mp hb).1
          omega
        · rw [upd_ne (ne_of_none e nD)]; exact s5 _ _ e
        · rw [List.length_append]; show _ + 1 ≤ _; omega
        · rcases List.mem_append.mp hk with hk | hk
          · exact jm k hk
          · rw [List.mem_singleton.mp hk]; omega
        · rw [upd_same, List.map_append]; rfl
      · exact ⟨s5, js, by omega, jm, hD⟩
    · obtain ⟨s5, js, jl, jm, hD⟩ := h
      rw [List.length_map, hbl] at jl
      have W5 := W4.trans (Went.of_same W4.1 s5)
      have nL0 := W12.none nL (W12.1.ne nL)
      refine i_nil ?_
      refine ⟨L, D, ks.map intV, js.map intV, rfl, rfl, s5 _ _ hL4, hD, ?_, ?_⟩
      · rw [List.length_map, List.length_map]
        have := (show 100 < sizeLine by decide)
        omega
      have W6 := W5.wr S nL0 nLp (o := .lst (ks.map intV ++ js.map intV))
      have hL6 : upd G L (.lst (ks.map intV ++ js.map intV)) L = some (.lst ((ks ++ js).map intV)) := by rw [upd_same, List.map_append]
      generalize upd G L (.lst (ks.map intV ++ js.map intV)) = H6 at W6 hL6 ⊢
      have hq : ∀ k ∈ ks ++ js, k < m := fun k hk => by
        rcases List.mem_append.mp hk with hk | hk
        · exact hks k hk
        · exact jm k hk
      generalize ks ++ js = qs at hL6 hq
      have S6 := W6.1
      have ED6 := ED.went S W6
      dsimp only
      refine ⟨_, rfl, L, rfl, ⟨_, SqL.of hL6⟩, ?_⟩
      refine for_list (K := K) (a := L) (xs := qs.map intV) (fun i σ' G => Went p H6 G ∧ ∃ v7 v8 v9 v10, σ' = [some (.ref p), some (.ref e), some (.int low), some (.int (m : Int)), some (wdV wd), some (.ref L), some (.int (shortN m : Int)), v7, v8, v9, v10]) ⟨Went.rfl' S6, none, none, none, none, rfl⟩ (fun i σ' G _ h => SqL.of (h.1.get nLp hL6)) (fun i y σ' G hy h => ?_) (fun σ' G h => ?_)
      · obtain ⟨W7, v7, v8, v9, v10, rfl⟩ := h
        obtain ⟨n, hn, rfl⟩ : ∃ n : Nat, qs[i]? = some n ∧ V.int (n : Int) = y := by
          rw [List.getElem?_map] at hy
          cases hb : qs[i]? with
          | none => rw [hb] at hy; cases hy
          | some b => rw [hb] at hy; exact ⟨b, rfl, Option.some.inj hy⟩
        have hnm := hq n (List.mem_of_getElem? hn)
        refine i_gname ?_
        walk_at "go"
        have ED7 := ED6.went S6 W7
        obtain ⟨f1, f2, f3, f4⟩ := log2_facts h1 h2
        have hw2 : ∀ W, wd = some W → 1 ≤ W ∧ m ≤ 2 ^ W := fun W e => ⟨(h3 W e).1, (h3 W e).2.2⟩
        have hcb : allB (codeS m wd n).cps.toList := by rw [codeS_L]; exact codeL_B _ _ _
        have hcl : (codeS m wd n).length ≤ 100 := Nat.le_trans (codeS_len h1 h2 h3) (by decide)
        have hlf := leaf_int (n := n) hlow h2 hnm
        refine ⟨m, n, wd, rfl, h1, h2, h3, ?_⟩
        walk_at "go"
        refine ⟨e, .int (low + n), z, low, m, wd, rfl, ED7, .int _, fun G1 s1 => ?_⟩
        rw [nthV_int hnm]
        refine ⟨true, true, rfl, rfl, _, rfl, i_no (by decide) ?_⟩
        walk_at "go"
        refine ⟨e, .int (low + n), z, low, m, wd, rfl, ED7.same s1, .int _, fun j hj G2 s2 => ?_, fun hj => by rw [nthV_int hnm] at hj; cases hj⟩
        rw [nthV_int hnm] at hj
        cases hj
        walk_at "go"
        refine ⟨.str (codeS m wd n), rfl, leaf_bits hcb hcl, fun G3 s3 => ?_⟩
        refine ⟨_, rfl, i_no rfl ?_⟩
        have s03 : Same G G3 := fun b o eb => s3 _ _ (s2 _ _ (s1 _ _ eb))
        walk_at "go"
        refine ⟨e, codeS m wd n, z, low, m, wd, rfl, ED7.same s03, hcb, hcl, ?_⟩
        rw [codeS_L, out_code f1 f2 f3 h1 hw2 hnm]
        intro G4 s4
        walk_at "go"
        refine ⟨.int (low + n), rfl, hlf, fun G5 s5 => ?_⟩
        refine ⟨_, rfl, i_no rfl ?_⟩
        have s05 : Same G G5 := fun b o eb => s5 _ _ (s4 _ _ (s03 _ _ eb))
        exact ⟨W7.trans (Went.of_same W7.1 s05), _, _, _, _, rfl⟩
      · obtain ⟨W7, v7, v8, v9, v10, rfl⟩ := h
        dsimp only
        refine i_seq ?_
        refine i_forl ?_
        walk_at "go"
        rename_i A1 nA1 A2 nA2 A3 nA3
        have sA1 := same_upd (o := .lst [.int low]) nA1
        have sA2 := same_upd (o := .tup [.int low]) nA2
        have sA3 := same_upd (o := .dK []) nA3
        have W8 := ((W7.new (o := .lst [.int low]) nA1).new (o := .tup [.int low]) nA2).new (o := .dK []) nA3
        have h8a := sA3 _ _ (sA2 _ _ (upd_same (H := G) (a := A1) (o := .lst [.int low])))
        have h8b := sA3 _ _ (upd_same (H := upd G A1 (.lst [.int low])) (a := A2) (o := .tup [.int low]))
        have h8c := upd_same (H := upd (upd G A1 (.lst [.int low])) A2 (.tup [.int low])) (a := A3) (o := .dK [])
        have ne1 : A1 ≠ p := W7.1.ne nA1
        have ne2 : A2 ≠ p := (W7.new (o := .lst [.int low]) nA1).1.ne nA2
        have ne3 : A3 ≠ p := ((W7.new (o := .lst [.int low]) nA1).new (o := .tup [.int low]) nA2).1.ne nA3
        generalize upd (upd (upd G A1 (.lst [.int low])) A2 (.tup [.int low])) A3 (.dK []) = G8 at W8 h8a h8b h8c ⊢
        refine ⟨p, _, rfl, W8.1, by decide, fun r G9 r0 r1 W9 => ?_⟩
        have W89 := W8.trans W9
        walk_at "go"
        rename_i Vl nV
        have hall : ∀ x ∈ ([.int (low - 1), .int (low + m), .non, .str "0", .ref A1, .ref A2, .bl true, .ref A3, .int (low - 1 - r)] : List V), Th G9 x ∧ x ≠ .ref p ∧ nthV low m x = none := by
          intro x hx
          have nin : ∀ i : Int, ¬ (low ≤ i ∧ i < low + m) → nthV low m (.int i) = none := fun i q => if_neg q
          simp only [List.mem_cons, List.mem_nil_iff, or_false] at hx
          rcases hx with rfl | rfl | rfl | rfl | rfl | rfl | rfl | rfl | rfl
          · exact ⟨.int _, (fun z => by cases z), nin _ (by omega)⟩
          · exact ⟨.int _, (fun z => by cases z), nin _ (by omega)⟩
          · exact ⟨.non, (fun z => by cases z), rfl⟩
          · exact ⟨.str _, (fun z => by cases z), rfl⟩
          · exact ⟨.lst (W9.2.1 _ _ ne1 h8a), (fun z => ne1 (V.ref.inj z)), rfl⟩
          · exact ⟨.tup (W9.2.1 _ _ ne2 h8b), (fun z => ne2 (V.ref.inj z)), rfl⟩
          · exact ⟨.bl _, (fun z => by cases z), rfl⟩
          · exact ⟨.dK (W9.2.1 _ _ ne3 h8c), (fun z => ne3 (V.ref.inj z)), rfl⟩
          · exact ⟨.int _, (fun z => by cases z), nin _ (by omega)⟩
        have ll : ([.int (low - 1), .int (low + m), .non, .str "0", .ref A1, .ref A2, .bl true, .ref A3, .int (low - 1 - r)] : List V).length = 9 := rfl
        generalize ([.int (low - 1), .int (low + m), .non, .str "0", .ref A1, .ref A2, .bl true, .ref A3, .int (low - 1 - r)] : List V) = xs at hall ll ⊢
        have W10 := W89.new (o := .lst xs) nV
        have sV := same_upd (o := .lst xs) nV
        have nVp : Vl ≠ p := W89.1.ne nV
        have hV := upd_same (H := G9) (a := Vl) (o := .lst xs)
        have hall2 : ∀ x ∈ xs, Th (upd G9 Vl (.lst xs)) x ∧ x ≠ .ref p ∧ nthV low m x = none := fun x hx => ⟨(hall x hx).1.same sV, (hall x hx).2⟩
        generalize upd G9 Vl (.lst xs) = GV at W10 hV hall2 ⊢
        refine ⟨Vl, rfl, ⟨_, SqL.of hV⟩, ?_⟩
        have EDV := ED6.went S6 W10
        refine for_list (K := K) (a := Vl) (xs := xs) (fun i σ' F => Went p GV F ∧ ∃ v7 v8 v9 v10, σ' = [some (.ref p), some (.ref e), some (.int low), some (.int (m : Int)), some (wdV wd), some (.ref L), some (.int (shortN m : Int)), v7, v8, v9, v10]) ⟨Went.rfl' W10.1, _, _, _, _, rfl⟩ (fun i σ' G _ h => SqL.of (h.1.get nVp hV)) (fun i y σ' F hy h => ?_) (fun σ' F h => ?_)
        · obtain ⟨WF, v7, v8, v9, v10, rfl⟩ := h
          obtain ⟨t1, t2, t3⟩ := hall2 y (List.mem_of_getElem? hy)
          have tF := t1.went t2 WF
          have EDF := EDV.went W10.1 WF
          refine i_gname ?_
          walk_at "go"
          refine ⟨e, y, z, low, m, wd, rfl, EDF, tF, fun F1 s1 => ?_⟩
          rw [t3]
          refine ⟨false, false, rfl, rfl, _, rfl, i_no (by decide) ?_⟩
          walk_at "go"
          refine ⟨e, y, z, low, m, wd, rfl, EDF.same s1, tF.same s1, t3, fun F2 t s2 ht => ?_⟩
          walk_at "go"
          rename_i q nq
          have s3 := same_upd (o := .tup []) nq
          refine ⟨t, q, [], rfl, s3 _ _ ht, upd_same, by decide, fun _ h => absurd h List.not_mem_nil, fun F4 s4 => ?_⟩
          refine ⟨_, rfl, i_no rfl ?_⟩
          exact ⟨WF.trans (Went.of_same WF.1 (fun b o eb => s4 _ _ (s3 _ _ (s2 _ _ (s1 _ _ eb))))), _, _, _, _, rfl⟩
        · obtain ⟨WF, v7, v8, v9, v10, rfl⟩ := h
          walk_at "go"
          exact k F (W6.trans (W10.trans WF))
end
end Me
set_option maxHeartbeats 8000000
namespace Me
open PySem L2
def fillsS (m : Nat) : Bool :=
  (List.range m).all (fun k => (List.range k).all fun j => !(Txt.startswith (codeS m none k) (codeS m none j) || Txt.startswith (codeS m none j) (codeS m none k))) &&
  decide (((List.range m).map fun k => 2 ^ (m.log2 + 1 - (codeS m none k).length)).sum = 2 ^ (m.log2 + 1))
theorem fillsS_all : ∀ m, m < 41 → 2 ≤ m → fillsS m = true := by decide +kernel
theorem fills_apart {m k j : Nat} (h : fillsS m = true) (hk : k < m) (hj : j < k) : Txt.startswith (codeS m none k) (codeS m none j) = false ∧ Txt.startswith (codeS m none j) (codeS m none k) = false := by
  unfold fillsS at h
  have h1 := (Bool.and_eq_true_iff.mp h).1
  have h2 := List.all_eq_true.mp (List.all_eq_true.mp h1 k (List.mem_range.mpr hk)) j (List.mem_range.mpr hj)
  revert h2
  cases Txt.startswith (codeS m none k) (codeS m none j) <;> cases Txt.startswith (codeS m none j) (codeS m none k) <;> decide
theorem fills_sum {m : Nat} (h : fillsS m = true) : ((List.range m).map fun k => 2 ^ (m.log2 + 1 - (codeS m none k).length)).sum = 2 ^ (m.log2 + 1) := by
  unfold fillsS at h
  exact of_decide_eq_true (Bool.and_eq_true_iff.mp h).2
end Me
set_option maxHeartbeats 8000000
namespace Me
open PySem L2


def cdV (m : Nat) (k : Nat) : V := .str (codeS m none k)
theorem sum_cast (f : Nat → Nat) (l : List Nat) : (l.map fun k => ((f k : Nat) : Int)).sum = (((l.map f).sum : Nat) : Int) := by
  induction l with
  | nil => rfl
  | cons a r ih => rw [List.map_cons, List.sum_cons, ih, List.map_cons, List.sum_cons]; push_cast; rfl
def roomN (m k : Nat) : Nat := 2 ^ (m.log2 + 1 - (codeS m none k).length)
section
variable {P : Program} {w : World} {K : PySem.W.Frag} {mg : Str → Option Value} {base : Heap} {a : Ad}
def spFills (a : Ad) : Sp := fun vs H Q _ => ∃ (e : Addr) (z : Str) (low : Int) (m : Nat), vs = [.ref e, .int low, .int (m : Int)] ∧ EdAt a H e z low m none ∧ 2 ≤ m ∧ m ≤ 40 ∧ ∀ H', Same H H' → Q (.bl true) H'
theorem ok_fills (T : Txt P K mg a) : FnOk P w K mg base CX0 6 a._law_fills.f a._law_fills.fd ["_law_made", "_law_low", "_law_many"] (spFills a) := by
  have G_written := ok_written (P := P) (w := w) (base := base) T
  have sc : FnScope ["_law_made", "_law_low", "_law_many", "_law_size", "_law_codes", "_law_k", "_law_j", "_law_code_here"] ["_law_made", "_law_low", "_law_many"] (defScope (top 116)) := ⟨rfl, rfl, rfl, by decide +kernel, rfl, by decide +kernel, by decide +kernel⟩
  refine T._law_fills.ok sc (fun vs H Q E h => ?_) (fun cdv A outer s H vs Q E hr h => ?_)
  · obtain ⟨e, z, low, m, rfl, _⟩ := h; rfl
  · obtain ⟨e, z, low, m, rfl, ED, h1, h2, k⟩ := h
    have hl : m.log2 < 61 := (Nat.log2_lt (by omega)).mpr (Nat.lt_of_le_of_lt h2 (by decide))
    have hF := fillsS_all m (by omega) h1
    have h60 : m ≤ 2 ^ 60 := Nat.le_trans h2 (by decide)
    refine ⟨_, (pss_cons (ps_set (i := 3) sc.nd rfl (by first | exact Or.inl rfl | exact Or.inr rfl) (pe_bits (pv 2)))
      (pss_cons (ps_setLc (te := tCall (spWritten a) [.non] E0 (tCons (tVar 0) (tCons (tOp (rI0 fun i j => .int (i + j)) (tVar 1) (tVar 5)) tNil))) (i := 4) (own := [("_law_k", 5)]) (g := gName 5) (by rfl) sc.nd rfl rfl (sw_true rfl rfl rfl (by decide +kernel)) (pi_range1 rfl T.range (pa_cons (pv 2) pa_nil)) (blkOk_by (own := [("_law_k", 5)]) (N := ["_law_made", "_law_low", "_law_many", "_law_size", "_law_codes", "_law_k", "_law_j", "_law_code_here"]) (sc := defScope (top 116)) (by decide +kernel)) (fun _ _ _ _ _ => pg_name (i := 5) sc.nd rfl (Or.inl rfl)) (fun _ _ _ _ _ => pts_nil) (fun _ _ _ _ _ => (by exact (pe_call G_written (hr.mono (by decide)) rfl T.written.mg T.written.kp T.written.bd (.cons (show RelV V.non Value.none from rfl) .nil) passL' (pa_cons (pv 0) (pa_cons (pe_op op_add (pv 1) (pv 5)) pa_nil))))))
      (pss_cons (ps_for PassesOwn.never rfl (pi_range1 rfl T.range (pa_cons (pv 2) pa_nil)) (pg_name (i := 5) sc.nd rfl (by first | exact Or.inl rfl | exact Or.inr rfl))
      (pss_one (ps_for PassesOwn.never rfl (pi_range1 rfl T.range (pa_cons (pv 5) pa_nil)) (pg_name (i := 6) sc.nd rfl (by first | exact Or.inl rfl | exact Or.inr rfl))
      (pss_one (ps_if (PW.pt (pw_or (pt_val (pe_m1 F.slot_str_startswith F.type_str_startswith mt_startswith (pe_ix ix_list (pv 4) (pv 5) (fun _ _ => rfl)) (pe_ix ix_list (pv 4) (pv 6) (fun _ _ => rfl)) rfl rfl rfl)) (pw_or1 (pt_val (pe_m1 F.slot_str_startswith F.type_str_startswith mt_startswith (pe_ix ix_list (pv 4) (pv 6) (fun _ _ => rfl)) (pe_ix ix_list (pv 4) (pv 5) (fun _ _ => rfl)) rfl rfl rfl)))))
      (pss_one (ps_ret pe_bl))
      pss_nil)))))
      (pss_one (ps_ret (pe_cmpR op_eq (pe_callB (cr_sum rfl) (by rfl) T.sum (by decide +kernel) (pa_cons (pe_lc (te := tOp (fun x y H Q => ∃ (i : Int) (k : Nat), x = .int i ∧ y = .int (k : Int) ∧ CShl i (k : Int) ∧ Q (.int (i * 2 ^ k)) H) (tC (.int 1)) (tOp (rI0 fun i j => .int (i - j)) (tVar 3) (tCB (fun xs H Q => ∃ z, xs = [.str z] ∧ z.length ≤ sizeLine ∧ Q (.int (z.length : Int)) H) (tCons (tVar 7) tNil)))) (own := [("_law_code_here", 7)]) (g := gName 7) (by rfl) sc.nd (pi_list (pv 4)) (blkOk_by (own := [("_law_code_here", 7)]) (N := ["_law_made", "_law_low", "_law_many", "_law_size", "_law_codes", "_law_k", "_law_j", "_law_code_here"]) (sc := defScope (top 116)) (by decide +kernel)) (fun _ _ _ _ _ => pg_name (i := 7) sc.nd rfl (Or.inl rfl)) (fun _ _ _ _ _ => pts_nil) (fun _ _ _ _ _ => (by exact (pe_op op_shlN pe_int (pe_op op_sub (pv 3) (pe_callB call_len_str (by rfl) T.len PySem.boot_len (pa_cons (pv 7) pa_nil))))))) pa_nil)) (pe_op op_shl pe_int (pv 3)) (nomark _))))))), ?_⟩
    walk_at "go"
    refine i_bits1 rfl (by omega) ?_
    walk_at "go"
    refine ⟨_, rfl, (m : Int), rfl, ?_, ?_, fun C nC => ?_⟩
    · have := (show -(2 : Int) ^ 62 ≤ 0 by decide); omega
    · have := (show (100 : Int) < 2 ^ 62 by decide); omega
    have s1 := same_upd (o := .lst []) nC
    refine lc_range (n := m) (fun i G => Same H G ∧ G C = some (.lst ((List.range i).map (cdV m)))) ⟨s1, upd_same⟩ (fun i G hi h => ?_) (fun G h => ?_)
    · obtain ⟨s2, hC⟩ := h
      refine ⟨rfl, ?_⟩
      unfold tYes
      with_reducible refine L2.iteT ?_
      refine i_call ?_
      walk_at "go"
      rw [Int.zero_add]
      refine ⟨e, .int (low + i), z, low, m, none, rfl, ED.same s2, .int _, fun j hj G2 s3 => ?_, fun hj => by rw [nthV_int hi] at hj; cases hj⟩
      rw [nthV_int hi] at hj
      cases hj
      refine ⟨_, s3 _ _ hC, ?_, fun b o eb => ?_, ?_⟩
      · rw [List.length_map, List.length_range]
        have := (show 100 < sizeLine by decide)
        omega
      · rw [upd_ne (ne_of_none eb nC)]; exact s3 _ _ (s2 _ _ eb)
      · rw [upd_same, List.range_succ, List.map_append]; rfl
    · obtain ⟨s2, hC⟩ := h
      have at_ : ∀ k, k < m → atI ((List.range m).map (cdV m)) (k : Int) = some (cdV m k) := fun k hk => atI_nat (by rw [List.getElem?_map, List.getElem?_range hk]; rfl)
      have b1 : ∀ k : Nat, k ≤ 100 → -(2 : Int) ^ 62 ≤ (k : Int) ∧ (k : Int) < 2 ^ 62 := fun k hk => by
        have := (show -(2 : Int) ^ 62 ≤ 0 by decide)
        have := (show (100 : Int) < 2 ^ 62 by decide)
        omega
      walk_at "go"
      refine ⟨_, rfl, (m : Int), rfl, (b1 m (by omega)).1, (b1 m (by omega)).2, for_range (n := m) (fun i σ' G' => G' = G ∧ ∃ v5 v6 v7, σ' = [some (.ref e), some (.int low), some (.int (m : Int)), some (.int ((m.log2 + 1 : Nat) : Int)), some (.ref C), v5, v6, v7]) ⟨rfl, _, _, _, rfl⟩ ?_ ?_⟩
      · rintro i σ' G' hi ⟨rfl, v5, v6, v7, rfl⟩
        rw [Int.zero_add]
        refine i_gname ?_
        refine ⟨_, rfl, (i : Int), rfl, (b1 i (by omega)).1, (b1 i (by omega)).2, for_range (n := i) (fun j σ' G2 => G2 = G' ∧ ∃ v6 v7, σ' = [some (.ref e), some (.int low), some (.int (m : Int)), some (.int ((m.log2 + 1 : Nat) : Int)), some (.ref C), some (.int (i : Int)), v6, v7]) ⟨rfl, _, _, rfl⟩ ?_ ?_⟩
        · rintro j σ' G2 hj ⟨rfl, v6, v7, rfl⟩
          rw [Int.zero_add]
          refine i_gname ?_
          obtain ⟨f1, f2⟩ := fills_apart hF hi hj
          walk_at "go"
          refine i_m1 ?_
          walk_at "go"
          refine i_ixl hC (at_ i hi) ?_
          refine ⟨⟨_, rfl⟩, ?_⟩
          walk_at "go"
          refine i_ixl hC (at_ j (by omega)) ?_
          refine ⟨_, _, rfl, rfl, ?_⟩
          rw [f1]
          refine ⟨_, rfl, i_no rfl ?_⟩
          walk_at "go"
          refine i_m1 ?_
          walk_at "go"
          refine i_ixl hC (at_ j (by omega)) ?_
          refine ⟨⟨_, rfl⟩, ?_⟩
          walk_at "go"
          refine i_ixl hC (at_ i hi) ?_
          refine ⟨_, _, rfl, rfl, ?_⟩
          rw [f2]
          refine ⟨_, rfl, i_no rfl ?_⟩
          exact ⟨rfl, _, _, rfl⟩
        · rintro σ' G2 ⟨rfl, v6, v7, rfl⟩
          exact ⟨rfl, _, _, _, rfl⟩
      · rintro σ' G' ⟨rfl, v5, v6, v7, rfl⟩
        walk_at "go"
        refine ⟨_, rfl, C, rfl, ⟨_, SqL.of hC⟩, fun D nD => ?_⟩
        have s3 := same_upd (o := .lst []) nD
        refine lc_list (K := K) (a := C) (xs := (List.range m).map (cdV m)) (fun i G2 => Same G' G2 ∧ G2 D = some (.lst ((List.range i).map fun k => V.int ((roomN m k : Nat) : Int)))) ⟨s3, upd_same⟩ (fun i G2 _ h => SqL.of (h.1 _ _ hC)) (fun i y G2 hy h => ?_) (fun G2 h => ?_)
        · obtain ⟨s4, hD⟩ := h
          have hi : i < m := by
            have := (List.getElem?_eq_some_iff.mp hy).1
            rw [List.length_map, List.length_range] at this
            exact this
          have ey : y = .str (codeS m none i) := by
            rw [List.getElem?_map, List.getElem?_range hi] at hy
            exact (Option.some.inj hy).symm
          subst ey
          have cl : (codeS m none i).length ≤ m.log2 + 1 := by
            unfold codeS
            dsimp only
            split <;> (rw [bitS_len]; omega)
          refine ⟨rfl, ?_⟩
          unfold tYes
          with_reducible refine L2.iteT ?_
          walk_at "go"
          refine ⟨_, rfl, Nat.le_trans (show (codeS m none i).length ≤ 100 by omega) (show 100 ≤ sizeLine by decide), ?_⟩
          walk_at "go"
          refine ⟨1, m.log2 + 1 - (codeS m none i).length, rfl, by congr 1; omega, shl_ok (v := 1) (by decide) (by omega), ?_⟩
          refine ⟨_, hD, ?_, fun b o eb => ?_, ?_⟩
          · rw [List.length_map, List.length_range]
            have := (show 100 < sizeLine by decide)
            omega
          · rw [upd_ne (ne_of_none eb nD)]; exact s4 _ _ eb
          · rw [upd_same, List.range_succ, List.map_append]
            unfold roomN
            rw [Int.one_mul]
            push_cast
            rfl
        · obtain ⟨s4, hD⟩ := h
          rw [List.length_map, List.length_range] at hD
          refine i_nil ⟨D, (List.range m).map fun k => ((roomN m k : Nat) : Int), rfl, SqL.of (by rw [hD, List.map_map]; rfl), ?_⟩
          rw [sum_cast, show ((List.range m).map (roomN m)).sum = 2 ^ (m.log2 + 1) from fills_sum hF]
          walk_at "go"
          have ee : decide (V.int ((2 ^ (m.log2 + 1) : Nat) : Int) = V.int (1 * 2 ^ ((m.log2 + 1 : Nat) : Int).toNat)) = true := by
            rw [shl_one (m.log2 + 1)]
            exact decide_eq_true rfl
          rw [ee]
          exact k G2 (fun b o eb => s4 _ _ (s2 _ _ eb))
end
end Me
set_option maxHeartbeats 8000000
namespace Me
open PySem L2


theorem i_key {t : TS} {D : Ends} {σ : L2.St} {H : Hp} (R : L2.St → Hp → Prop) (key : ∀ σ' G, R σ' G → D.nx σ' G) (q : (∀ σ' G, R σ' G → D.nx σ' G) → t D σ H) : t D σ H := q key
theorem i_bitsG {te : TE} {σ : L2.St} {H : Hp} {Q : VK} (q : te σ H fun x H1 => ∃ i, x = .int i ∧ Q (.int (Builtin.Int.intBits i)) H1) : tBits te σ H Q := q
theorem tabs_went {Tt : List (Addr × Str)} {H H' : Hp} {p : Addr} (t : LamX.Tabs Tt H) (S : StOk H p) (w : Went p H H') : LamX.Tabs Tt H' := fun q hq => by
  obtain ⟨ps, h1, h2, h3⟩ := t q hq
  obtain ⟨L, ns, i, b, c, e, _⟩ := S
  refine ⟨ps, w.get (fun z => by rw [z, e] at h1; cases h1) h1, h2, fun pos cv hc => ?_⟩
  obtain ⟨c, e1, e2⟩ := h3 pos cv hc
  refine ⟨c, e1, w.get (fun z => ?_) e2⟩
  rw [z, e] at e2
  have e2 := Option.some.inj e2
  unfold LamX.CodeO at e2
  cases e2
theorem StOk.keptN {H H' : Hp} {p e : Addr} (S : StOk H p) (n : H e = none) (k : KeptN H e H') : StOk H' p := by
  obtain ⟨L, ns, i, b, c, h1, h2, h3⟩ := S
  exact ⟨L, ns, i, b, c, k _ _ (ne_of_none h1 n) h1 (fun _ z => by cases z), k _ _ (ne_of_none h2 n) h2 (fun _ z => by cases z), h3⟩
section
variable {P : Program} {w : World} {K : PySem.W.Frag} {mg : Str → Option Value} {base : Heap} {a : Ad}
def spLaw (K : PySem.W.Frag) (a : Ad) : Sp := fun vs H Q _ => ∃ (s : Addr) (ns : List Int), vs = [.ref s] ∧ SqL K H s (ns.map V.int) ∧ ns.length ≤ 63 ∧ LamX.Tabs (tabs a) H ∧ ∀ H', Q (.bl true) H'
theorem ok_law (T : Txt P K mg a) (TB : LamX.TabB base mg a.tc a.tp) : FnOk P w K mg base CX0 11 a.law.f a.law.fd ["_law_script"] (spLaw K a) := by
  have G__law_start : FnOk P w K mg base CX0 1 a._law_start.f a._law_start.fd ["_law_script"] (spStart K) := ok_start T
  have G__law_pull : FnOk P w K mg base CX0 1 a._law_pull.f a._law_pull.fd ["_law_state", "_law_many"] spPull := ok_pull T
  have G__law_big : FnOk P w K mg base CX0 2 a._law_big.f a._law_big.fd ["_law_state", "_law_many"] spBig := ok_big T
  have G_num := ok_num (P := P) (w := w) (base := base) T
  have G_ed := ok_ed_init (P := P) (w := w) (base := base) T TB
  have G__law_values_hold := ok_vals (P := P) (w := w) (base := base) T
  have G__law_rows_hold := ok_rows (P := P) (w := w) (base := base) T
  have G__law_fills := ok_fills (P := P) (w := w) (base := base) T
  have sc : FnScope ["_law_script", "_law_state", "_law_k", "_law_size", "_law_many", "_law_low", "_law_width", "_law_made"] ["_law_script"] (defScope (top 117)) := ⟨rfl, rfl, rfl, by decide +kernel, rfl, by decide +kernel, by decide +kernel⟩
  refine T.law.ok sc (fun vs H Q E h => ?_) (fun cdv A outer s H vs Q E hr h => ?_)
  · obtain ⟨p, _, rfl, _⟩ := h; rfl
  · obtain ⟨sa, ns, rfl, hS, hn, Tb, k⟩ := h
    refine ⟨_, (pss_cons (ps_set (i := 1) sc.nd rfl (by first | exact Or.inl rfl | exact Or.inr rfl) (pe_call G__law_start (hr.mono (by first | decide | omega)) rfl T._law_start.mg T._law_start.kp T._law_start.b .nil pass0 (pa_cons (pv 0) pa_nil)))
      (pss_cons (ps_for PassesOwn.never rfl (pi_range1 rfl T.range (pa_cons pe_int pa_nil)) (pg_name (i := 2) sc.nd rfl (by first | exact Or.inl rfl | exact Or.inr rfl))
      (pss_cons (ps_set (i := 3) sc.nd rfl (by first | exact Or.inl rfl | exact Or.inr rfl) (pe_op op_add pe_int (pe_call G__law_pull (hr.mono (by first | decide | omega)) rfl T._law_pull.mg T._law_pull.kp T._law_pull.b .nil pass0 (pa_cons (pv 1) (pa_cons pe_int pa_nil)))))
      (pss_cons (ps_set (i := 4) sc.nd rfl (by first | exact Or.inl rfl | exact Or.inr rfl) (pe_op op_add pe_int (pe_call G__law_big (hr.mono (by first | decide | omega)) rfl T._law_big.mg T._law_big.kp T._law_big.b .nil pass0 (pa_cons (pv 1) (pa_cons (pe_op op_sub (pe_op op_shl pe_int (pv 3)) pe_int) pa_nil)))))
      (pss_cons (ps_if (pt_cmpR op_eq (pe_call G__law_pull (hr.mono (by first | decide | omega)) rfl T._law_pull.mg T._law_pull.kp T._law_pull.b .nil pass0 (pa_cons (pv 1) (pa_cons pe_int pa_nil))) pe_int (nomark _))
      (pss_one (ps_set (i := 4) sc.nd rfl (by first | exact Or.inl rfl | exact Or.inr rfl) (pe_callB (call_min2 rfl) (by rfl) T.min (by decide +kernel) (pa_cons (pe_op op_shl pe_int pe_int) (pa_cons (pe_callB (call_max2 rfl) (by rfl) T.max (by decide +kernel) (pa_cons pe_int (pa_cons (pe_op op_add (pe_op op_sub (pe_op op_shl pe_int (pv 3)) pe_int) (pe_call G__law_pull (hr.mono (by first | decide | omega)) rfl T._law_pull.mg T._law_pull.kp T._law_pull.b .nil pass0 (pa_cons (pv 1) (pa_cons pe_int pa_nil)))) pa_nil))) pa_nil)))))
      pss_nil)
      (pss_cons (ps_if (pt_cmpR op_eq (pe_call G__law_pull (hr.mono (by first | decide | omega)) rfl T._law_pull.mg T._law_pull.kp T._law_pull.b .nil pass0 (pa_cons (pv 1) (pa_cons pe_int pa_nil))) pe_int (nomark _))
      (pss_one (ps_set (i := 4) sc.nd rfl (by first | exact Or.inl rfl | exact Or.inr rfl) (pe_op op_add pe_int (pe_call G__law_pull (hr.mono (by first | decide | omega)) rfl T._law_pull.mg T._law_pull.kp T._law_pull.b .nil pass0 (pa_cons (pv 1) (pa_cons pe_int pa_nil))))))
      pss_nil)
      (pss_cons (ps_set (i := 5) sc.nd rfl (by first | exact Or.inl rfl | exact Or.inr rfl) (pe_ix ix_list (pe_lst (pa_cons pe_int (pa_cons (pe_op op_sub (pe_call G__law_pull (hr.mono (by first | decide | omega)) rfl T._law_pull.mg T._law_pull.kp T._law_pull.b .nil pass0 (pa_cons (pv 1) (pa_cons pe_int pa_nil))) pe_int) (pa_cons (pe_op op_sub (pe_call G__law_big (hr.mono (by first | decide | omega)) rfl T._law_big.mg T._law_big.kp T._law_big.b .nil pass0 (pa_cons (pv 1) (pa_cons (pe_op op_pow pe_int pe_int) pa_nil))) (pe_op op_mul pe_int (pe_op op_pow pe_int pe_int))) pa_nil)))) (pe_call G__law_pull (hr.mono (by first | decide | omega)) rfl T._law_pull.mg T._law_pull.kp T._law_pull.b .nil pass0 (pa_cons (pv 1) (pa_cons pe_int pa_nil))) (fun _ _ => rfl)))
      (pss_cons (ps_set (i := 6) sc.nd rfl (by first | exact Or.inl rfl | exact Or.inr rfl) pe_non)
      (pss_cons (ps_if (pt_cmpR op_eq (pe_call G__law_pull (hr.mono (by first | decide | omega)) rfl T._law_pull.mg T._law_pull.kp T._law_pull.b .nil pass0 (pa_cons (pv 1) (pa_cons pe_int pa_nil))) pe_int (nomark _))
      (pss_one (ps_set (i := 6) sc.nd rfl (by first | exact Or.inl rfl | exact Or.inr rfl) (pe_callB (call_min2 rfl) (by rfl) T.min (by decide +kernel) (pa_cons pe_int (pa_cons (pe_op op_add (pe_bits (pe_op op_sub (pv 4) pe_int)) (pe_call G__law_pull (hr.mono (by first | decide | omega)) rfl T._law_pull.mg T._law_pull.kp T._law_pull.b .nil pass0 (pa_cons (pv 1) (pa_cons pe_int pa_nil)))) pa_nil)))))
      pss_nil)
      (pss_cons (ps_set (i := 7) sc.nd rfl (by first | exact Or.inl rfl | exact Or.inr rfl) (pe_make T.mk_Edition G_ed (hr.mono (by decide)) rfl T.Edition T.b_m_Edition_init .nil pass0 (pa_cons (pe_disp (pps_cons pe_str (pe_make T.mk_Number G_num (hr.mono (by decide)) rfl T.Number T.b_m_Number_init .nil pass0 (pa_cons (pv 5) (pa_cons (pe_op op_sub (pe_op op_add (pv 5) (pv 4)) pe_int) (pa_cons (pv 6) pa_nil)))) pps_nil) (by rfl) (by rfl) (fun z => by cases z) (by decide)) (pa_cons pe_str (pa_cons pe_int pa_nil)))))
      (pss_cons (ps_if (pt_not (pt_val (pe_call G__law_values_hold (hr.mono (by first | decide | omega)) rfl T._law_values_hold.mg T._law_values_hold.kp T._law_values_hold.b .nil pass0 (pa_cons (pv 1) (pa_cons (pv 7) (pa_cons (pv 5) (pa_cons (pv 4) (pa_cons (pv 6) pa_nil))))))))
      (pss_one (ps_ret pe_bl))
      pss_nil)
      (pss_cons (ps_if (pt_not (pt_val (pe_call G__law_rows_hold (hr.mono (by first | decide | omega)) rfl T._law_rows_hold.mg T._law_rows_hold.kp T._law_rows_hold.b .nil pass0 (pa_cons (pv 1) (pa_cons (pv 7) (pa_cons (pv 5) (pa_cons (pv 4) (pa_cons (pv 6) pa_nil))))))))
      (pss_one (ps_ret pe_bl))
      pss_nil)
      (pss_one (ps_if (PW.pt (pw_and (pt_cmpR op_isN (pv 6) pe_non (nomark _)) (pw_and (pt_cmpR op_le (pv 4) pe_int (nomark _)) (pw_and1 (pt_not (pt_val (pe_call G__law_fills (hr.mono (by first | decide | omega)) rfl T._law_fills.mg T._law_fills.kp T._law_fills.b .nil pass0 (pa_cons (pv 7) (pa_cons (pv 5) (pa_cons (pv 4) pa_nil))))))))))
      (pss_one (ps_ret pe_bl))
      pss_nil)))))))))))))
      (pss_one (ps_ret pe_bl)))), ?_⟩
    walk_at "go"
    refine ⟨sa, ns, rfl, hS, hn, fun p H0 np S0 s0 => ?_⟩
    have T0 : LamX.Tabs (tabs a) H0 := Tb.ext s0
    walk_at "go"
    refine ⟨3, rfl, by decide, by decide, for_range (n := 3) (fun i σ' G => StOk G p ∧ LamX.Tabs (tabs a) G ∧ ∃ v2 v3 v4 v5 v6 v7, σ' = [some (.ref sa), some (.ref p), v2, v3, v4, v5, v6, v7]) ⟨S0, T0, none, none, none, none, none, none, rfl⟩ ?_ ?_⟩
    · rintro i σ' G hi ⟨S1, T1, v2, v3, v4, v5, v6, v7, rfl⟩
      refine i_gname ?_
      walk_at "go"
      refine ⟨p, 60, rfl, S1, by decide, by decide, fun r1 G1 r10 r11 W1 => ?_⟩
      obtain ⟨j, rfl⟩ := Int.eq_ofNat_of_zero_le r10
      refine i_rI0 ?_
      refine i_gname ?_
      obtain ⟨sz, hsz⟩ : ∃ sz : Nat, sz = j + 1 := ⟨_, rfl⟩
      rw [show (1 : Int) + (j : Int) = (sz : Int) by omega]
      have sz1 : 1 ≤ sz := by omega
      have sz60 : sz ≤ 60 := by omega
      have p60 : (2 : Nat) ^ sz ≤ 2 ^ 60 := pow_le sz60
      have p1 : 2 ≤ (2 : Nat) ^ sz := by have := pow_le sz1; omega
      have e60 : (2 : Nat) ^ 60 = 1152921504606846976 := by decide
      walk_at "go"
      have es := shl_one sz
      rw [es]
      refine ⟨p, _, rfl, W1.1, by omega, fun r2 G2 r20 r21 W2 => ?_⟩
      obtain ⟨n2, rfl⟩ := Int.eq_ofNat_of_zero_le r20
      refine i_rI0 ?_
      refine i_gname ?_
      have W12 := W1.trans W2
      obtain ⟨m0, hm0⟩ : ∃ m0 : Nat, m0 = n2 + 2 := ⟨_, rfl⟩
      rw [show (2 : Int) + (n2 : Int) = (m0 : Int) by omega]
      dsimp only
      refine i_seq ?_
      refine i_key (fun σ' G' => ∃ mn : Nat, 2 ≤ mn ∧ mn ≤ 2 ^ 60 ∧ Went p G G' ∧ σ' = [some (.ref sa), some (.ref p), some (.int (0 + (i : Int))), some (.int (sz : Int)), some (.int (mn : Int)), v5, v6, v7]) ?_ (fun key => ?_)
      rotate_left
      · walk_at "go"
        refine ⟨p, 3, rfl, W12.1, by decide, by decide, fun r3 G3 r30 r31 W3 => ?_⟩
        have W13 := W12.trans W3
        walk_at "go"
        refine i_itei (fun _ => ?_) (fun _ => ?_)
        · walk_at "go"
          refine ⟨p, 3, rfl, W13.1, by decide, by decide, fun r4 G4 r40 r41 W4 => ?_⟩
          rw [es]
          refine i_rI0 ?_
          refine i_nil ⟨_, _, rfl, ?_⟩
          refine i_nil ⟨_, _, rfl, ?_⟩
          have hI : (1 : Int) * 2 ^ Int.toNat 60 = 1152921504606846976 := by decide
          rw [hI]
          obtain ⟨mn, b1, b2, emn⟩ : ∃ mn : Nat, 2 ≤ mn ∧ mn ≤ 2 ^ 60 ∧ (if (if ((2 ^ sz : Nat) : Int) - 1 + r4 > 2 then ((2 ^ sz : Nat) : Int) - 1 + r4 else 2) < 1152921504606846976 then (if ((2 ^ sz : Nat) : Int) - 1 + r4 > 2 then ((2 ^ sz : Nat) : Int) - 1 + r4 else 2) else 1152921504606846976) = (mn : Int) := by
            rw [e60]
            by_cases c1 : ((2 ^ sz : Nat) : Int) - 1 + r4 > 2
            · rw [if_pos c1]
              by_cases c2 : ((2 ^ sz : Nat) : Int) - 1 + r4 < 1152921504606846976
              · rw [if_pos c2]
                exact ⟨(((2 ^ sz : Nat) : Int) - 1 + r4).toNat, by omega, by omega, by omega⟩
              · rw [if_neg c2]
                exact ⟨1152921504606846976, by decide, by decide, rfl⟩
            · rw [if_neg c1, if_pos (by decide)]
              exact ⟨2, by decide, by decide, rfl⟩
          rw [emn]
          refine i_gname ?_
          exact key _ _ ⟨mn, b1, b2, W13.trans W4, rfl⟩
        · exact key _ _ ⟨m0, by omega, by omega, W13, rfl⟩
      rintro σ' Ga ⟨m1, q1, q2, Wa, rfl⟩
      clear hm0
      dsimp only
      refine i_seq ?_
      refine i_key (fun σ' G' => ∃ mn : Nat, 2 ≤ mn ∧ mn ≤ 2 ^ 60 ∧ Went p G G' ∧ σ' = [some (.ref sa), some (.ref p), some (.int (0 + (i : Int))), some (.int (sz : Int)), some (.int (mn : Int)), v5, v6, v7]) ?_ (fun key => ?_)
      rotate_left
      · walk_at "go"
        refine ⟨p, 6, rfl, Wa.1, by decide, by decide, fun r3 G3 r30 r31 W3 => ?_⟩
        have W13 := Wa.trans W3
        walk_at "go"
        refine i_itei (fun _ => ?_) (fun _ => ?_)
        · walk_at "go"
          refine ⟨p, 39, rfl, W13.1, by decide, by decide, fun r4 G4 r40 r41 W4 => ?_⟩
          obtain ⟨n4, rfl⟩ := Int.eq_ofNat_of_zero_le r40
          refine i_rI0 ?_
          refine i_gname ?_
          exact key _ _ ⟨n4 + 2, by omega, by omega, W13.trans W4, by rw [show (2 : Int) + (n4 : Int) = ((n4 + 2 : Nat) : Int) by omega]; rfl⟩
        · exact key _ _ ⟨m1, q1, q2, W13, rfl⟩
      clear q1 q2 Wa
      rintro σ' Ga ⟨m, q1, q2, Wa, rfl⟩
      walk_at "go"
      refine ⟨p, 20, rfl, Wa.1, by decide, by decide, fun r5 G5 r50 r51 W5 => ?_⟩
      have Wa5 := Wa.trans W5
      walk_at "go"
      refine ⟨p, _, rfl, Wa5.1, by decide, fun r6 G6 r60 r61 W6 => ?_⟩
      have Wa6 := Wa5.trans W6
      walk_at "go"
      rename_i Ll nLl
      have W7 := Wa6.new (o := .lst [.int 0, .int (r5 - 10), .int (r6 - 5 * 10 ^ Int.toNat 58)]) nLl
      have nLp : Ll ≠ p := Wa6.1.ne nLl
      have hLl := upd_same (H := G6) (a := Ll) (o := .lst [.int 0, .int (r5 - 10), .int (r6 - 5 * 10 ^ Int.toNat 58)])
      generalize upd G6 Ll (.lst [.int 0, .int (r5 - 10), .int (r6 - 5 * 10 ^ Int.toNat 58)]) = G7 at W7 hLl ⊢
      refine ⟨p, 3, rfl, W7.1, by decide, by decide, fun r8 G8 r80 r81 W8 => ?_⟩
      obtain ⟨lw, hlw, elw⟩ : ∃ lw : Int, lw.natAbs < 2 ^ 300 ∧ atI ([.int 0, .int (r5 - 10), .int (r6 - 5 * 10 ^ Int.toNat 58)] : List V) r8 = some (.int lw) := by
        have e59 : (10 : Int) ^ Int.toNat 59 = 100000000000000000000000000000000000000000000000000000000000 := by decide +kernel
        have e58 : (10 : Int) ^ Int.toNat 58 = 10000000000000000000000000000000000000000000000000000000000 := by decide +kernel
        have g0 : (10 : Nat) ^ 59 ≤ 2 ^ 240 := by decide +kernel
        have g1 : (2 : Nat) ^ 240 ≤ 2 ^ 300 := pow_le (by decide)
        have g2 : (10 : Nat) ^ 59 = 100000000000000000000000000000000000000000000000000000000000 := by decide +kernel
        rw [g2] at g0
        rw [e59] at r61
        rw [e58]
        generalize (2 : Nat) ^ 240 = z1 at g0 g1
        generalize (2 : Nat) ^ 300 = z2 at g1 ⊢
        rcases (show r8 = 0 ∨ r8 = 1 ∨ r8 = 2 by omega) with rfl | rfl | rfl
        · exact ⟨0, by omega, rfl⟩
        · exact ⟨r5 - 10, by omega, rfl⟩
        · exact ⟨r6 - 5 * 10000000000000000000000000000000000000000000000000000000000, by omega, rfl⟩
      have Wa8 := W7.trans W8
      refine i_ixl (W8.get nLp hLl) elw ?_
      refine i_gname ?_
      dsimp only
      refine i_seq (i_asg (i_c (i_gname ?_)))
      dsimp only
      refine i_seq ?_
      refine i_key (fun σ' G' => ∃ wd : Option Nat, (∀ W, wd = some W → 1 ≤ W ∧ W ≤ 60 ∧ m ≤ 2 ^ W) ∧ Went p G G' ∧ σ' = [some (.ref sa), some (.ref p), some (.int (0 + (i : Int))), some (.int (sz : Int)), some (.int (m : Int)), some (.int lw), some (wdV wd), v7]) ?_ (fun key => ?_)
      rotate_left
      · walk_at "go"
        refine ⟨p, 2, rfl, Wa8.1, by decide, by decide, fun r3 G3 r30 r31 W3 => ?_⟩
        have W13 := Wa8.trans W3
        walk_at "go"
        refine i_itei (fun _ => ?_) (fun _ => ?_)
        · walk_at "go"
          refine i_bitsG ?_
          walk_at "go"
          refine ⟨((m - 1 : Nat) : Int), by congr 1; omega, ?_⟩
          rw [bits_nat (by omega)]
          walk_at "go"
          refine ⟨p, 3, rfl, W13.1, by decide, by decide, fun r4 G4 r40 r41 W4 => ?_⟩
          obtain ⟨n4, rfl⟩ := Int.eq_ofNat_of_zero_le r40
          refine i_rI0 ?_
          refine i_nil ⟨_, _, rfl, ?_⟩
          refine i_gname ?_
          have lt2 := Nat.lt_log2_self (n := m - 1)
          obtain ⟨W, hW1, hW2, hW3, eW⟩ : ∃ W : Nat, 1 ≤ W ∧ W ≤ 60 ∧ m ≤ 2 ^ W ∧ (if (((m - 1).log2 + 1 : Nat) : Int) + (n4 : Int) < 60 then (((m - 1).log2 + 1 : Nat) : Int) + (n4 : Int) else 60) = (W : Int) := by
            by_cases c : (((m - 1).log2 + 1 : Nat) : Int) + (n4 : Int) < 60
            · rw [if_pos c]
              refine ⟨(m - 1).log2 + 1 + n4, by omega, by omega, ?_, by omega⟩
              have := pow_le (show (m - 1).log2 + 1 ≤ (m - 1).log2 + 1 + n4 by omega)
              omega
            · rw [if_neg c]
              exact ⟨60, by decide, by decide, q2, rfl⟩
          rw [eW]
          exact key _ _ ⟨some W, fun W' z => by cases z; exact ⟨hW1, hW2, hW3⟩, W13.trans W4, rfl⟩
        · exact key _ _ ⟨none, (fun _ z => nomatch z), W13, rfl⟩
      rintro σ' Gb ⟨wd, hw, Wb, rfl⟩
      have Sb := Wb.1
      have Tbb := tabs_went T1 S1 Wb
      dsimp only
      refine i_seq (i_asg ?_)
      refine i_make ?_
      refine i_cons ?_
      intro D0 nD0
      have s1 := same_upd (o := .dK []) nD0
      refine ⟨_, rfl, ?_⟩
      walk_at "go"
      intro x xdx nx nxdx nex
      have s2 : Same (upd Gb D0 (.dK [])) (upd (upd (upd Gb D0 (.dK [])) xdx (.own x)) x (.ins a.c_Number xdx [])) := fun b o eb => by
        rw [upd_ne (ne_of_none eb nx), upd_ne (ne_of_none eb nxdx)]; exact eb
      refine ⟨x, xdx, lw, m, wd, rfl, upd_same, q1, q2, hw, fun H2 k2 N => ⟨rfl, ?_⟩⟩
      have s12 : Same (upd Gb D0 (.dK [])) H2 := fun b o eb => k2 b o (ne_of_none eb nx) (s2 b o eb)
      have hD2 := s12 _ _ (upd_same (H := Gb) (a := D0) (o := .dK []))
      refine ⟨hD2, [(.inr "n", .ref x)], rfl, (by show 1 ≤ 15; decide), ?_⟩
      have hD3 : upd H2 D0 (.dK (mergeK [] [(.inr "n", .ref x)])) D0 = some (.dK [(.inr "n", .ref x)]) := upd_same
      have s3 : Same Gb (upd H2 D0 (.dK (mergeK [] [(.inr "n", .ref x)]))) := fun b o eb => by
        rw [upd_ne (ne_of_none eb nD0)]; exact s12 _ _ (s1 _ _ eb)
      have N3 : NumOk a.c_Number (upd H2 D0 (.dK (mergeK [] [(.inr "n", .ref x)]))) x lw m wd := by
        obtain ⟨ndx, en⟩ := N.at_
        exact ⟨⟨ndx, upd_get (ne_of en hD2 (by intro z; cases z)) en⟩, N.lo, N.hi, N.wd⟩
      generalize upd H2 D0 (.dK (mergeK [] [(.inr "n", .ref x)])) = G3 at hD3 s3 N3 ⊢
      walk_at "go"
      intro e edx ne_ nedx nee
      have s4 : Same G3 (upd (upd G3 edx (.own e)) e (.ins a.c_Edition edx [])) := fun b o eb => by
        rw [upd_ne (ne_of_none eb ne_), upd_ne (ne_of_none eb nedx)]; exact eb
      have s34 : Same Gb (upd (upd G3 edx (.own e)) e (.ins a.c_Edition edx [])) := fun b o eb => s4 _ _ (s3 _ _ eb)
      have neb : Gb e = none := by
        cases q : Gb e with
        | none => rfl
        | some o => rw [s3 _ _ q] at ne_; cases ne_
      refine ⟨e, edx, D0, x, "n", lw, m, wd, rfl, by decide +kernel, upd_same, s4 _ _ hD3, N3.same s4, Tbb.ext s34, fun H5 k5 T5 ED => ⟨rfl, ?_⟩⟩
      have k05 : KeptN Gb e H5 := fun b o nb eb nt => k5 b o nb (s34 b o eb) nt
      have S5 := Sb.keptN neb k05
      refine i_gname ?_
      walk_at "go"
      refine ⟨p, e, "n", lw, m, wd, rfl, S5, ED, q1, q2, hw, hlw, fun H6 W6 => ?_⟩
      refine ⟨_, rfl, i_no rfl ?_⟩
      have ED6 := ED.went S5 W6
      walk_at "go"
      refine ⟨p, e, "n", lw, m, wd, rfl, W6.1, ED6, q1, q2, hw, fun H7 W7 => ?_⟩
      refine ⟨_, rfl, i_no rfl ?_⟩
      have W57 := W6.trans W7
      have ED7 := ED.went S5 W57
      have T7 := tabs_went T5 S5 W57
      walk_at "go"
      cases wd with
      | some W =>
        refine ⟨rfl, _, rfl, i_no (decide_eq_false (fun z => by cases z)) ?_⟩
        refine i_no rfl ?_
        exact ⟨W57.1, T7, _, _, _, _, _, _, rfl⟩
      | none =>
        refine ⟨rfl, _, rfl, i_yes (decide_eq_true rfl) ?_⟩
        walk_at "go"
        refine i_itd (fun h40 => ?_) (fun _ => ?_)
        · walk_at "go"
          refine ⟨e, "n", lw, m, rfl, ED7, q1, by omega, fun H8 s8 => ?_⟩
          refine ⟨_, rfl, i_no rfl ?_⟩
          exact ⟨W57.1.keep s8, T7.ext s8, _, _, _, _, _, _, rfl⟩
        · refine i_no rfl ?_
          exact ⟨W57.1, T7, _, _, _, _, _, _, rfl⟩
    · rintro σ' G ⟨S1, T1, v2, v3, v4, v5, v6, v7, rfl⟩
      walk_at "go"
      exact k G
end
end Me
set_option maxHeartbeats 8000000
namespace Me
open PySem L2
abbrev PP : Program := PySem.Challenge.rw_roomleft_k10_numbers_tight_and_wide.prog
theorem eqB_ok {a b : Option Bool} (h : eqB a b = true) : a = b := of_decide_eq_true h
theorem oexB_ok {K : PySem.W.Frag} {C : Addr} (h : oexB K C = true) : ∃ nm q N bs bm sn sub ab col dd k0 k1 k2 k3 k5, K.lookup C = some (excClassObj nm q C N bs bm true sn sub ab col dd k0 k1 k2 k3 k5 "ValueError.__new__") ∧ PySem.HandSPX.refsVE bm = true := by
  unfold oexB at h
  split at h
  · rename_i dd cd sl lk
    split at h
    · rename_i C' bm k0 k1 k2 k3 n k5 em es
      simp only [Bool.and_eq_true, beq_iff_eq, Bool.not_eq_true'] at h
      obtain ⟨rfl, rfl, nd, hd, ht⟩ := h
      obtain ⟨nm, bs, mro, ns, qn, hdc, sn, sub, ab, col, del⟩ := cd
      dsimp only at em nd hd
      subst em nd hd
      have esl : sl = #[k0, k1, k2, k3, some (.builtin "ValueError.__new__"), k5] := by
        obtain ⟨l⟩ := sl
        exact congrArg Array.mk es
      subst esl
      exact ⟨nm, qn, ns, bs, bm, sn, sub, ab, col, dd, k0, k1, k2, k3, k5, lk, ht⟩
    · cases h
  · cases h
theorem all_and {l : List Bool} (h : l.all id = true) : ∀ b ∈ l, b = true := fun b hb => List.all_eq_true.mp h b hb
theorem ers_mem {i : Nat} (h : i < 4) : ers.getD i ("", "") ∈ ers := by
  have key : ∀ i : Nat, i < 4 → ers.getD i ("", "") ∈ ers := by decide +kernel
  exact key i h
theorem nm_inj {i j : Nat} (hi : i < 4) (hj : j < 4) : decide (nmOf i = (ers.getD j ("", "")).1) = decide (i = j) := by
  have key : ∀ i : Nat, i < 4 → ∀ j : Nat, j < 4 → decide (nmOf i = (ers.getD j ("", "")).1) = decide (i = j) := by decide +kernel
  exact key i hi j hj
theorem noat_mem {c f : Str} (hc : c ∈ made) (hf : f ∈ fields) : He.Fa.noat c f ∈ fa :=
  List.mem_append_right _ (List.mem_append_right _ (List.mem_append_right _ (List.mem_append_right _ (List.mem_append_right _ (List.mem_append_right _ (List.mem_flatMap.mpr ⟨c, hc, List.mem_map.mpr ⟨f, hf, rfl⟩⟩))))))
theorem vals_nil {ds : List Value} (r : Vals [] ds) : ds = [] := by cases r; rfl
theorem vals_non {ds : List Value} (r : Vals [V.non] ds) : ds = [.none] := by
  cases r with
  | cons a b =>
    cases b
    rw [show _ = Value.none from a]
section
variable {K : PySem.W.Frag} {mg : Str → Option Value} {h : Heap}
structure KcF (K : PySem.W.Frag) (mg : Str → Option Value) (x : Str) : Prop where
  gl : mg x = some (.ref (He.ga K x))
  cc : PySem.W.findIn K (.ref (He.ga K x)) "__class__" = some (some (.builtin "object.__class__"))
  cm : PySem.W.mroIn K (He.ga K x) (.type "object") = some true
  kt : ∀ y ∈ asked, PySem.W.kitOne K (.ref (He.ga K x)) (.ref (He.ga K y)) = some (decide (x = y))
theorem kc_ok (X : K.In h) (G : h.Ns mainGlobals mg) (c2 : exB K = true) (x : Str) (hx : x ∈ made) : KcF K mg x := by
  have ex := all_and c2
  unfold exL at ex
  have x1 : made.all (fun y => (kcL K y).all id) = true := ex _ (by simp)
  have z := all_and (List.all_eq_true.mp x1 _ hx)
  unfold kcL at z
  have z1 : He.eqO (PySem.W.nsIn K mainGlobals x) (some (some (.ref (He.ga K x)))) = true := z _ (by simp)
  have z2 : He.eqO (PySem.W.findIn K (.ref (He.ga K x)) "__class__") (some (some (.builtin "object.__class__"))) = true := z _ (by simp)
  have z3 : eqB (PySem.W.mroIn K (He.ga K x) (.type "object")) (some true) = true := z _ (by simp)
  have z4 : asked.all (fun y => eqB (PySem.W.kitOne K (.ref (He.ga K x)) (.ref (He.ga K y))) (some (decide (x = y)))) = true := z _ (by simp)
  exact ⟨PySem.W.mg_of X G (He.eqO_ok z1), He.eqO_ok z2, eqB_ok z3, fun y hy => eqB_ok (List.all_eq_true.mp z4 y hy)⟩
theorem ask_ok (X : K.In h) (G : h.Ns mainGlobals mg) (c2 : exB K = true) (x : Str) (hx : x ∈ asked) : mg x = some (.ref (He.ga K x)) := by
  have ex := all_and c2
  unfold exL at ex
  have x1 : asked.all (fun x => He.eqO (PySem.W.nsIn K mainGlobals x) (some (some (.ref (He.ga K x))))) = true := ex _ (by simp)
  exact PySem.W.mg_of X G (He.eqO_ok (List.all_eq_true.mp x1 _ hx))
theorem er_ok (X : K.In h) (G : h.Ns mainGlobals mg) (c2 : exB K = true) {C : Nat → Addr} {I : Nat → DA} (hC : ∀ i, C i = He.ga K (nmOf i)) (hI : ∀ i, (I i).f = He.ma K (He.ga K (nmOf i)) "__init__") (i : Nat) (hi : i < 4)
    (fn : FunD K "__init__" (nmOf i ++ ".__init__") (defArgs (iniOf i)) (defBody (iniOf i)) (defScope (iniOf i)) [] [] (I i).f (I i).fd) (b : Binds K (I i).fd ["self", fOf i] []) : Er PP K mg C I i := by
  have ex := all_and c2
  unfold exL at ex
  have x1 : ers.all (fun y => (erL K y.1).all id) = true := ex _ (by simp)
  have x5 : He.eqO (PySem.W.specialIn K (.builtin "object.__class__") "__get__") (some (some (.builtin "getset_descriptor.__get__"))) = true := ex _ (by simp)
  have x6 : eqB (PySem.W.takesIn K (.builtin "object.__class__")) (some true) = true := ex _ (by simp)
  have z : ∀ b ∈ erL K (nmOf i), b = true := all_and (List.all_eq_true.mp x1 _ (ers_mem hi))
  unfold erL at z
  have z1 : oexB K (He.ga K (nmOf i)) = true := z _ (by simp)
  have z2 : He.eqO (PySem.W.nsIn K mainGlobals (nmOf i)) (some (some (.ref (He.ga K (nmOf i))))) = true := z _ (by simp)
  have z3 : He.eqO (PySem.W.findIn K (.ref (He.ga K (nmOf i))) "__setattr__") (some (some (.builtin "object.__setattr__"))) = true := z _ (by simp)
  have z4 : eqB (PySem.W.subIn K (.ref (He.ga K (nmOf i))) (.type "BaseException")) (some true) = true := z _ (by simp)
  have z5 : decide (PySem.W.typeIn K (.ref (He.ga K (nmOf i))) = some (.type "type")) = true := z _ (by simp)
  have z6 : PySem.W.keepIn K (.ref (He.ga K (nmOf i))) = true := z _ (by simp)
  have z7 : He.eqO (PySem.W.findIn K (.ref (He.ga K (nmOf i))) "__getattribute__") (some (some (.builtin "BaseException.__getattribute__"))) = true := z _ (by simp)
  have z8 : He.eqO (PySem.W.findIn K (.ref (He.ga K (nmOf i))) "__getattr__") (some none) = true := z _ (by simp)
  have z9 : PySem.W.hasDictIn K (He.ga K (nmOf i)) = true := z _ (by simp)
  have z10 : He.eqO (PySem.W.findIn K (.ref (He.ga K (nmOf i))) "__class__") (some (some (.builtin "object.__class__"))) = true := z _ (by simp)
  have z11 : eqB (PySem.W.mroIn K (He.ga K (nmOf i)) (.type "object")) (some true) = true := z _ (by simp)
  have z12 : ers.all (fun y => eqB (PySem.W.exmOne K (.ref (He.ga K (nmOf i))) (.ref (He.ga K y.1))) (some (decide (nmOf i = y.1)))) = true := z _ (by simp)
  have z15 : allF.all (fun f => He.eqO (PySem.W.findIn K (.ref (He.ga K (nmOf i))) f) (some none)) = true := z _ (by simp)
  have z17 : He.eqO (PySem.W.findIn K (.ref (He.ga K (nmOf i))) "__init__") (some (some (.ref (He.ma K (He.ga K (nmOf i)) "__init__")))) = true := z _ (by simp)
  have z18 : decide (PySem.W.typeIn K (.ref (He.ma K (He.ga K (nmOf i)) "__init__")) = some (.type "function")) = true := z _ (by simp)
  refine { ox := by rw [hC]; exact ⟨oexB_ok z1, He.eqO_ok z3, eqB_ok z4, of_decide_eq_true z5, z6⟩, gl := by rw [hC]; exact PySem.W.mg_of X G (He.eqO_ok z2), is := by rw [hC]; exact ⟨He.eqO_ok z7, He.eqO_ok z8, eqB_ok z4, z9, He.eqO_ok z10, He.eqO_ok x5, eqB_ok x6, eqB_ok z11⟩, ex := (fun j hj => ?_), noA := (fun f hf => by rw [hC]; exact He.eqO_ok (List.all_eq_true.mp z15 f hf)), ini := by rw [hC, hI]; exact He.eqO_ok z17, ti := by rw [hI]; exact of_decide_eq_true z18, fn := fn, b := b }
  have q := eqB_ok (List.all_eq_true.mp z12 _ (ers_mem hj))
  rw [nm_inj hi hj] at q
  rw [hC, hC]
  exact q
theorem mk_txt (X : K.In h) (G : h.Ns mainGlobals mg) (e : obsK0 K = valK0) : ∃ a : Ad, a.law.f = He.ga K "law" ∧ (a.tc, a.tp) = He.cT K ("check_rooms", none) ∧ Txt PP K mg a := by
  have c : He.SaysD fa fn K := congrArg (fun z : He.AlD × Bool => z.1) e
  have c2 : exB K = true := congrArg (fun z : He.AlD × Bool => z.2) e
  have ex := all_and c2
  unfold exL at ex
  have x5 : He.eqO (PySem.W.specialIn K (.builtin "object.__class__") "__get__") (some (some (.builtin "getset_descriptor.__get__"))) = true := ex _ (by simp)
  have x6 : eqB (PySem.W.takesIn K (.builtin "object.__class__")) (some true) = true := ex _ (by simp)
  obtain ⟨fd0, F0⟩ := c.def_ 0 (d := dG "is_int" 2 []) rfl
  obtain ⟨fd1, F1⟩ := c.def_ 1 (d := dG "is_int_within" 3 []) rfl
  obtain ⟨fd2, F2⟩ := c.def_ 2 (d := dG "is_name" 4 []) rfl
  obtain ⟨fd3, F3⟩ := c.def_ 3 (d := dG "is_bits" 5 []) rfl
  obtain ⟨fd4, F4⟩ := c.def_ 4 (d := dG "how_many_integers" 8 []) rfl
  obtain ⟨fd5, F5⟩ := c.def_ 5 (d := dG "tight_code" 9 []) rfl
  obtain ⟨fd6, F6⟩ := c.def_ 6 (d := dG "bits_of" 10 []) rfl
  obtain ⟨fd7, F7⟩ := c.def_ 7 (d := dG "number_bits" 11 []) rfl
  obtain ⟨fd8, F8⟩ := c.def_ 8 (d := dG "is_simple" 32 []) rfl
  obtain ⟨fd9, F9⟩ := c.def_ 9 (d := dG "inner_kinds" 45 []) rfl
  obtain ⟨fd10, F10⟩ := c.def_ 10 (d := dG "called_names" 46 []) rfl
  obtain ⟨fd11, F11⟩ := c.def_ 11 (d := dG "reached_names" 47 []) rfl
  obtain ⟨fd12, F12⟩ := c.def_ 12 (d := dG "checked_calls" 48 []) rfl
  obtain ⟨fd13, F13⟩ := c.def_ 13 (d := dG "check_bodies" 52 []) rfl
  obtain ⟨fd14, F14⟩ := c.def_ 14 (d := dG "bodies_of" 53 []) rfl
  obtain ⟨fd15, F15⟩ := c.def_ 15 (d := dG "rooms_of" 54 []) rfl
  obtain ⟨fd16, F16⟩ := c.def_ 16 (d := dG "ended" 58 []) rfl
  obtain ⟨fd17, F17⟩ := c.def_ 17 (d := dG "number_node" 70 []) rfl
  obtain ⟨fd18, F18⟩ := c.def_ 18 (d := dG "first_threads" 73 []) rfl
  obtain ⟨fd19, F19⟩ := c.def_ 19 (d := dG "lack_of" 74 []) rfl
  obtain ⟨fd20, F20⟩ := c.def_ 20 (d := dG "fed" 75 []) rfl
  obtain ⟨fd21, F21⟩ := c.def_ 21 (d := dG "path_of" 76 []) rfl
  obtain ⟨fd22, F22⟩ := c.def_ 22 (d := dG "fed_all" 77 []) rfl
  obtain ⟨fd23, F23⟩ := c.def_ 23 (d := dG "are_whole" 78 []) rfl
  obtain ⟨fd24, F24⟩ := c.def_ 24 (d := dG "least_lack" 79 []) rfl
  obtain ⟨fd25, F25⟩ := c.def_ 25 (d := dG "check_parts" 83 []) rfl
  obtain ⟨fd26, F26⟩ := c.def_ 26 (d := dG "are_kinds" 84 []) rfl
  obtain ⟨fd27, F27⟩ := c.def_ 27 (d := dG "is_named_kind" 85 []) rfl
  obtain ⟨fd28, F28⟩ := c.def_ 28 (d := dG "check_rooms" 86 []) rfl
  obtain ⟨fd29, F29⟩ := c.def_ 29 (d := dG "taken_room" 87 []) rfl
  obtain ⟨fd30, F30⟩ := c.def_ 30 (d := dG "kind_name" 88 []) rfl
  obtain ⟨fd31, F31⟩ := c.def_ 31 (d := dG "written" 90 [.non]) rfl
  obtain ⟨fd32, F32⟩ := c.def_ 32 (d := dG "check" 92 []) rfl
  obtain ⟨fd33, F33⟩ := c.def_ 33 (d := dG "read" 99 [.non]) rfl
  obtain ⟨fd34, F34⟩ := c.def_ 34 (d := dG "read_first" 100 [.non]) rfl
  obtain ⟨fd35, F35⟩ := c.def_ 35 (d := dG "first_end" 101 []) rfl
  obtain ⟨fd36, F36⟩ := c.def_ 36 (d := dG "is_value" 103 [.non]) rfl
  obtain ⟨fd37, F37⟩ := c.def_ 37 (d := dG "_law_same" 105 []) rfl
  obtain ⟨fd38, F38⟩ := c.def_ 38 (d := dG "_law_start" 106 []) rfl
  obtain ⟨fd39, F39⟩ := c.def_ 39 (d := dG "_law_pull" 107 []) rfl
  obtain ⟨fd40, F40⟩ := c.def_ 40 (d := dG "_law_big" 108 []) rfl
  obtain ⟨fd41, F41⟩ := c.def_ 41 (d := dG "_law_binary" 109 []) rfl
  obtain ⟨fd42, F42⟩ := c.def_ 42 (d := dG "_law_code" 110 []) rfl
  obtain ⟨fd43, F43⟩ := c.def_ 43 (d := dG "_law_due" 111 []) rfl
  obtain ⟨fd44, F44⟩ := c.def_ 44 (d := dG "_law_told" 112 []) rfl
  obtain ⟨fd45, F45⟩ := c.def_ 45 (d := dG "_law_refused" 113 []) rfl
  obtain ⟨fd46, F46⟩ := c.def_ 46 (d := dG "_law_values_hold" 114 []) rfl
  obtain ⟨fd47, F47⟩ := c.def_ 47 (d := dG "_law_rows_hold" 115 []) rfl
  obtain ⟨fd48, F48⟩ := c.def_ 48 (d := dG "_law_fills" 116 []) rfl
  obtain ⟨fd49, F49⟩ := c.def_ 49 (d := dG "law" 117 []) rfl
  obtain ⟨fd50, F50⟩ := c.def_ 50 (d := dM "Number" "__init__" 28 0 [.non]) rfl
  obtain ⟨fd51, F51⟩ := c.def_ 51 (d := dM "Lengths" "__init__" 50 0 []) rfl
  obtain ⟨fd52, F52⟩ := c.def_ 52 (d := dM "TightNode" "__init__" 60 0 []) rfl
  obtain ⟨fd53, F53⟩ := c.def_ 53 (d := dM "TightNode" "begin" 60 1 []) rfl
  obtain ⟨fd54, F54⟩ := c.def_ 54 (d := dM "TightNode" "owed" 60 2 []) rfl
  obtain ⟨fd55, F55⟩ := c.def_ 55 (d := dM "TightNode" "feed" 60 3 []) rfl
  obtain ⟨fd56, F56⟩ := c.def_ 56 (d := dM "WideNode" "__init__" 61 0 []) rfl
  obtain ⟨fd57, F57⟩ := c.def_ 57 (d := dM "WideNode" "begin" 61 1 []) rfl
  obtain ⟨fd58, F58⟩ := c.def_ 58 (d := dM "WideNode" "owed" 61 2 []) rfl
  obtain ⟨fd59, F59⟩ := c.def_ 59 (d := dM "WideNode" "feed" 61 3 []) rfl
  obtain ⟨fd60, F60⟩ := c.def_ 60 (d := dM "Plan" "__init__" 69 0 []) rfl
  obtain ⟨fd61, F61⟩ := c.def_ 61 (d := dM "Plan" "node_of" 69 1 []) rfl
  obtain ⟨fd62, F62⟩ := c.def_ 62 (d := dM "Plan" "made" 69 2 []) rfl
  obtain ⟨fd63, F63⟩ := c.def_ 63 (d := dM "Plan" "same" 69 3 []) rfl
  obtain ⟨fd64, F64⟩ := c.def_ 64 (d := dM "Edition" "__init__" 82 0 []) rfl
  obtain ⟨fd65, F65⟩ := c.def_ 65 (d := dM "Draft" "__init__" 91 0 []) rfl
  obtain ⟨fd66, F66⟩ := c.def_ 66 (d := dM "Draft" "as_bits" 91 1 []) rfl
  obtain ⟨fd67, F67⟩ := c.def_ 67 (d := dM "Draft" "write" 91 2 []) rfl
  obtain ⟨fd68, F68⟩ := c.def_ 68 (d := dM "Parse" "__init__" 97 0 []) rfl
  obtain ⟨fd69, F69⟩ := c.def_ 69 (d := dM "Parse" "cut" 97 1 []) rfl
  obtain ⟨fd70, F70⟩ := c.def_ 70 (d := dM "Parse" "number" 97 2 []) rfl
  obtain ⟨fd71, F71⟩ := c.def_ 71 (d := dM "Parse" "value" 97 3 []) rfl
  obtain ⟨fd72, F72⟩ := c.def_ 72 (d := dM "Parse" "integer" 97 4 []) rfl
  obtain ⟨fd73, F73⟩ := c.def_ 73 (d := dI 0) rfl
  obtain ⟨fd74, F74⟩ := c.def_ 74 (d := dI 1) rfl
  obtain ⟨fd75, F75⟩ := c.def_ 75 (d := dI 2) rfl
  obtain ⟨fd76, F76⟩ := c.def_ 76 (d := dI 3) rfl
  obtain ⟨da31, ra31, ba31⟩ := FunD.binds1 (ps := ["edition", "value", "kind"]) F31 3 1 (List.cons_ne_nil V.non []) rfl fun _ _ _ _ _ _ _ us its hu hi => match us, its, hu, hi with | [_, _, _], [_], _, _ => ⟨_, rfl, rfl⟩
  obtain ⟨db31, rb31, bb31⟩ := FunD.binds1 (ps := ["edition", "value", "kind"]) F31 2 0 (List.cons_ne_nil V.non []) rfl fun _ _ _ _ _ _ _ us its hu hi => match us, its, hu, hi with | [_, _], [_], _, _ => ⟨_, rfl, rfl⟩
  cases vals_nil ra31
  cases vals_non rb31
  obtain ⟨da33, ra33, ba33⟩ := FunD.binds1 (ps := ["edition", "bits", "kind"]) F33 3 1 (List.cons_ne_nil V.non []) rfl fun _ _ _ _ _ _ _ us its hu hi => match us, its, hu, hi with | [_, _, _], [_], _, _ => ⟨_, rfl, rfl⟩
  obtain ⟨db33, rb33, bb33⟩ := FunD.binds1 (ps := ["edition", "bits", "kind"]) F33 2 0 (List.cons_ne_nil V.non []) rfl fun _ _ _ _ _ _ _ us its hu hi => match us, its, hu, hi with | [_, _], [_], _, _ => ⟨_, rfl, rfl⟩
  cases vals_nil ra33
  cases vals_non rb33
  obtain ⟨da34, ra34, ba34⟩ := FunD.binds1 (ps := ["edition", "bits", "kind"]) F34 3 1 (List.cons_ne_nil V.non []) rfl fun _ _ _ _ _ _ _ us its hu hi => match us, its, hu, hi with | [_, _, _], [_], _, _ => ⟨_, rfl, rfl⟩
  obtain ⟨db34, rb34, bb34⟩ := FunD.binds1 (ps := ["edition", "bits", "kind"]) F34 2 0 (List.cons_ne_nil V.non []) rfl fun _ _ _ _ _ _ _ us its hu hi => match us, its, hu, hi with | [_, _], [_], _, _ => ⟨_, rfl, rfl⟩
  cases vals_nil ra34
  cases vals_non rb34
  obtain ⟨da36, ra36, ba36⟩ := FunD.binds1 (ps := ["edition", "thing", "kind"]) F36 3 1 (List.cons_ne_nil V.non []) rfl fun _ _ _ _ _ _ _ us its hu hi => match us, its, hu, hi with | [_, _, _], [_], _, _ => ⟨_, rfl, rfl⟩
  obtain ⟨db36, rb36, bb36⟩ := FunD.binds1 (ps := ["edition", "thing", "kind"]) F36 2 0 (List.cons_ne_nil V.non []) rfl fun _ _ _ _ _ _ _ us its hu hi => match us, its, hu, hi with | [_, _], [_], _, _ => ⟨_, rfl, rfl⟩
  cases vals_nil ra36
  cases vals_non rb36
  obtain ⟨da50, ra50, ba50⟩ := FunD.binds1 (ps := ["self", "low", "high", "width"]) F50 4 1 (List.cons_ne_nil V.non []) rfl fun _ _ _ _ _ _ _ us its hu hi => match us, its, hu, hi with | [_, _, _, _], [_], _, _ => ⟨_, rfl, rfl⟩
  obtain ⟨db50, rb50, bb50⟩ := FunD.binds1 (ps := ["self", "low", "high", "width"]) F50 3 0 (List.cons_ne_nil V.non []) rfl fun _ _ _ _ _ _ _ us its hu hi => match us, its, hu, hi with | [_, _, _], [_], _, _ => ⟨_, rfl, rfl⟩
  cases vals_nil ra50
  cases vals_non rb50
  have hcode : fd28.code = .ref (He.codeOf K ("check_rooms", none)) := by
    obtain ⟨oc, od, dV, kV, doc, pm, an, cdv, ct, osl, ef, lk, hcd, _, _⟩ := F28.ex
    obtain ⟨cc, rfl⟩ := He.codeIn_ref hcd
    have e1 : fd28.code = .ref cc := by rw [ef] <;> rfl
    have e2 : He.codeOf K ("check_rooms", none) = cc := He.codeOf_eq lk e1
    rw [e1, e2]
  refine ⟨{ C := fun i => He.ga K (nmOf i), I := fun i => ⟨He.ma K (He.ga K (nmOf i)) "__init__", ([fd73, fd74, fd75, fd76] : List FuncData).getD i fd0⟩, tc := (He.cT K ("check_rooms", none)).1, tp := (He.cT K ("check_rooms", none)).2, c_Number := He.ga K "Number", c_Lengths := He.ga K "Lengths", c_TightNode := He.ga K "TightNode", c_WideNode := He.ga K "WideNode", c_Plan := He.ga K "Plan", c_Edition := He.ga K "Edition", c_Draft := He.ga K "Draft", c_Parse := He.ga K "Parse", c_Nothing := He.ga K "Nothing", c_Bits := He.ga K "Bits", c_Call := He.ga K "Call", c_Items := He.ga K "Items", c_Choice := He.ga K "Choice", c_Row := He.ga K "Row", c_Door := He.ga K "Door", c_BodyNode := He.ga K "BodyNode", m_Number_init := ⟨He.ma K (He.ga K "Number") "__init__", fd50⟩, m_Lengths_init := ⟨He.ma K (He.ga K "Lengths") "__init__", fd51⟩, m_TightNode_init := ⟨He.ma K (He.ga K "TightNode") "__init__", fd52⟩, m_TightNode_begin := ⟨He.ma K (He.ga K "TightNode") "begin", fd53⟩, m_TightNode_owed := ⟨He.ma K (He.ga K "TightNode") "owed", fd54⟩, m_TightNode_feed := ⟨He.ma K (He.ga K "TightNode") "feed", fd55⟩, m_WideNode_init := ⟨He.ma K (He.ga K "WideNode") "__init__", fd56⟩, m_WideNode_begin := ⟨He.ma K (He.ga K "WideNode") "begin", fd57⟩, m_WideNode_owed := ⟨He.ma K (He.ga K "WideNode") "owed", fd58⟩, m_WideNode_feed := ⟨He.ma K (He.ga K "WideNode") "feed", fd59⟩, m_Plan_init := ⟨He.ma K (He.ga K "Plan") "__init__", fd60⟩, m_Plan_node_of := ⟨He.ma K (He.ga K "Plan") "node_of", fd61⟩, m_Plan_made := ⟨He.ma K (He.ga K "Plan") "made", fd62⟩, m_Plan_same := ⟨He.ma K (He.ga K "Plan") "same", fd63⟩, m_Edition_init := ⟨He.ma K (He.ga K "Edition") "__init__", fd64⟩, m_Draft_init := ⟨He.ma K (He.ga K "Draft") "__init__", fd65⟩, m_Draft_as_bits := ⟨He.ma K (He.ga K "Draft") "as_bits", fd66⟩, m_Draft_write := ⟨He.ma K (He.ga K "Draft") "write", fd67⟩, m_Parse_init := ⟨He.ma K (He.ga K "Parse") "__init__", fd68⟩, m_Parse_cut := ⟨He.ma K (He.ga K "Parse") "cut", fd69⟩, m_Parse_number := ⟨He.ma K (He.ga K "Parse") "number", fd70⟩, m_Parse_value := ⟨He.ma K (He.ga K "Parse") "value", fd71⟩, m_Parse_integer := ⟨He.ma K (He.ga K "Parse") "integer", fd72⟩, is_int := ⟨He.ga K "is_int", fd0⟩, is_int_within := ⟨He.ga K "is_int_within", fd1⟩, is_name := ⟨He.ga K "is_name", fd2⟩, is_bits := ⟨He.ga K "is_bits", fd3⟩, how_many_integers := ⟨He.ga K "how_many_integers", fd4⟩, tight_code := ⟨He.ga K "tight_code", fd5⟩, bits_of := ⟨He.ga K "bits_of", fd6⟩, number_bits := ⟨He.ga K "number_bits", fd7⟩, is_simple := ⟨He.ga K "is_simple", fd8⟩, inner_kinds := ⟨He.ga K "inner_kinds", fd9⟩, called_names := ⟨He.ga K "called_names", fd10⟩, reached_names := ⟨He.ga K "reached_names", fd11⟩, checked_calls := ⟨He.ga K "checked_calls", fd12⟩, check_bodies := ⟨He.ga K "check_bodies", fd13⟩, bodies_of := ⟨He.ga K "bodies_of", fd14⟩, rooms_of := ⟨He.ga K "rooms_of", fd15⟩, ended := ⟨He.ga K "ended", fd16⟩, number_node := ⟨He.ga K "number_node", fd17⟩, first_threads := ⟨He.ga K "first_threads", fd18⟩, lack_of := ⟨He.ga K "lack_of", fd19⟩, fed := ⟨He.ga K "fed", fd20⟩, path_of := ⟨He.ga K "path_of", fd21⟩, fed_all := ⟨He.ga K "fed_all", fd22⟩, are_whole := ⟨He.ga K "are_whole", fd23⟩, least_lack := ⟨He.ga K "least_lack", fd24⟩, check_parts := ⟨He.ga K "check_parts", fd25⟩, are_kinds := ⟨He.ga K "are_kinds", fd26⟩, is_named_kind := ⟨He.ga K "is_named_kind", fd27⟩, check_rooms := ⟨He.ga K "check_rooms", fd28⟩, taken_room := ⟨He.ga K "taken_room", fd29⟩, kind_name := ⟨He.ga K "kind_name", fd30⟩, written := ⟨He.ga K "written", fd31⟩, check := ⟨He.ga K "check", fd32⟩, read := ⟨He.ga K "read", fd33⟩, read_first := ⟨He.ga K "read_first", fd34⟩, first_end := ⟨He.ga K "first_end", fd35⟩, is_value := ⟨He.ga K "is_value", fd36⟩, _law_same := ⟨He.ga K "_law_same", fd37⟩, _law_start := ⟨He.ga K "_law_start", fd38⟩, _law_pull := ⟨He.ga K "_law_pull", fd39⟩, _law_big := ⟨He.ga K "_law_big", fd40⟩, _law_binary := ⟨He.ga K "_law_binary", fd41⟩, _law_code := ⟨He.ga K "_law_code", fd42⟩, _law_due := ⟨He.ga K "_law_due", fd43⟩, _law_told := ⟨He.ga K "_law_told", fd44⟩, _law_refused := ⟨He.ga K "_law_refused", fd45⟩, _law_values_hold := ⟨He.ga K "_law_values_hold", fd46⟩, _law_rows_hold := ⟨He.ga K "_law_rows_hold", fd47⟩, _law_fills := ⟨He.ga K "_law_fills", fd48⟩, law := ⟨He.ga K "law", fd49⟩ }, rfl, rfl, ?_⟩
  refine { er := (fun i hi => ?_), code := hcode, NO_BODY := He.int_ok X G (c.fact 67 (f := .int "NO_BODY" (-1)) rfl), NEVER := He.int_ok X G (c.fact 68 (f := .int "NEVER" (-1)) rfl), isinstance := He.free_ok X G (c.fact 50 (f := .free "isinstance") rfl), int := He.free_ok X G (c.fact 51 (f := .free "int") rfl), bool := He.free_ok X G (c.fact 52 (f := .free "bool") rfl), str := He.free_ok X G (c.fact 53 (f := .free "str") rfl), dict := He.free_ok X G (c.fact 54 (f := .free "dict") rfl), list := He.free_ok X G (c.fact 55 (f := .free "list") rfl), tuple := He.free_ok X G (c.fact 56 (f := .free "tuple") rfl), len := He.free_ok X G (c.fact 57 (f := .free "len") rfl), range := He.free_ok X G (c.fact 58 (f := .free "range") rfl), all := He.free_ok X G (c.fact 59 (f := .free "all") rfl), any := He.free_ok X G (c.fact 60 (f := .free "any") rfl), enumerate := He.free_ok X G (c.fact 61 (f := .free "enumerate") rfl), min := He.free_ok X G (c.fact 62 (f := .free "min") rfl), max := He.free_ok X G (c.fact 63 (f := .free "max") rfl), sorted := He.free_ok X G (c.fact 64 (f := .free "sorted") rfl), sum := He.free_ok X G (c.fact 65 (f := .free "sum") rfl), repr := He.free_ok X G (c.fact 66 (f := .free "repr") rfl), Number := (kc_ok X G c2 "Number" (by decide +kernel)).gl, Lengths := (kc_ok X G c2 "Lengths" (by decide +kernel)).gl, TightNode := (kc_ok X G c2 "TightNode" (by decide +kernel)).gl, WideNode := (kc_ok X G c2 "WideNode" (by decide +kernel)).gl, Plan := (kc_ok X G c2 "Plan" (by decide +kernel)).gl, Edition := (kc_ok X G c2 "Edition" (by decide +kernel)).gl, Draft := (kc_ok X G c2 "Draft" (by decide +kernel)).gl, Parse := (kc_ok X G c2 "Parse" (by decide +kernel)).gl, Nothing := ask_ok X G c2 "Nothing" (by decide +kernel), Bits := ask_ok X G c2 "Bits" (by decide +kernel), Call := ask_ok X G c2 "Call" (by decide +kernel), Items := ask_ok X G c2 "Items" (by decide +kernel), Choice := ask_ok X G c2 "Choice" (by decide +kernel), Row := ask_ok X G c2 "Row" (by decide +kernel), Door := ask_ok X G c2 "Door" (by decide +kernel), BodyNode := ask_ok X G c2 "BodyNode" (by decide +kernel), cl_Number := He.cls_ok (c.fact 69 (f := .cls "Number") rfl), ty_Number := (fun H p dx fs hh => .base (.ins hh (He.cls_ok (c.fact 69 (f := .cls "Number") rfl)) (kc_ok X G c2 "Number" (by decide +kernel)).cc (He.eqO_ok x5) (eqB_ok x6) (kc_ok X G c2 "Number" (by decide +kernel)).cm)), no_Number := (fun f hf => ?_), mk_Number := He.mkr_ok (c.fact 77 (f := .mkr "Number") rfl), cl_Lengths := He.cls_ok (c.fact 70 (f := .cls "Lengths") rfl), ty_Lengths := (fun H p dx fs hh => .base (.ins hh (He.cls_ok (c.fact 70 (f := .cls "Lengths") rfl)) (kc_ok X G c2 "Lengths" (by decide +kernel)).cc (He.eqO_ok x5) (eqB_ok x6) (kc_ok X G c2 "Lengths" (by decide +kernel)).cm)), no_Lengths := (fun f hf => ?_), mk_Lengths := He.mkr_ok (c.fact 78 (f := .mkr "Lengths") rfl), cl_TightNode := He.cls_ok (c.fact 71 (f := .cls "TightNode") rfl), ty_TightNode := (fun H p dx fs hh => .base (.ins hh (He.cls_ok (c.fact 71 (f := .cls "TightNode") rfl)) (kc_ok X G c2 "TightNode" (by decide +kernel)).cc (He.eqO_ok x5) (eqB_ok x6) (kc_ok X G c2 "TightNode" (by decide +kernel)).cm)), no_TightNode := (fun f hf => ?_), mk_TightNode := He.mkr_ok (c.fact 79 (f := .mkr "TightNode") rfl), cl_WideNode := He.cls_ok (c.fact 72 (f := .cls "WideNode") rfl), ty_WideNode := (fun H p dx fs hh => .base (.ins hh (He.cls_ok (c.fact 72 (f := .cls "WideNode") rfl)) (kc_ok X G c2 "WideNode" (by decide +kernel)).cc (He.eqO_ok x5) (eqB_ok x6) (kc_ok X G c2 "WideNode" (by decide +kernel)).cm)), no_WideNode := (fun f hf => ?_), mk_WideNode := He.mkr_ok (c.fact 80 (f := .mkr "WideNode") rfl), cl_Plan := He.cls_ok (c.fact 73 (f := .cls "Plan") rfl), ty_Plan := (fun H p dx fs hh => .base (.ins hh (He.cls_ok (c.fact 73 (f := .cls "Plan") rfl)) (kc_ok X G c2 "Plan" (by decide +kernel)).cc (He.eqO_ok x5) (eqB_ok x6) (kc_ok X G c2 "Plan" (by decide +kernel)).cm)), no_Plan := (fun f hf => ?_), mk_Plan := He.mkr_ok (c.fact 81 (f := .mkr "Plan") rfl), cl_Edition := He.cls_ok (c.fact 74 (f := .cls "Edition") rfl), ty_Edition := (fun H p dx fs hh => .base (.ins hh (He.cls_ok (c.fact 74 (f := .cls "Edition") rfl)) (kc_ok X G c2 "Edition" (by decide +kernel)).cc (He.eqO_ok x5) (eqB_ok x6) (kc_ok X G c2 "Edition" (by decide +kernel)).cm)), no_Edition := (fun f hf => ?_), mk_Edition := He.mkr_ok (c.fact 82 (f := .mkr "Edition") rfl), cl_Draft := He.cls_ok (c.fact 75 (f := .cls "Draft") rfl), ty_Draft := (fun H p dx fs hh => .base (.ins hh (He.cls_ok (c.fact 75 (f := .cls "Draft") rfl)) (kc_ok X G c2 "Draft" (by decide +kernel)).cc (He.eqO_ok x5) (eqB_ok x6) (kc_ok X G c2 "Draft" (by decide +kernel)).cm)), no_Draft := (fun f hf => ?_), mk_Draft := He.mkr_ok (c.fact 83 (f := .mkr "Draft") rfl), cl_Parse := He.cls_ok (c.fact 76 (f := .cls "Parse") rfl), ty_Parse := (fun H p dx fs hh => .base (.ins hh (He.cls_ok (c.fact 76 (f := .cls "Parse") rfl)) (kc_ok X G c2 "Parse" (by decide +kernel)).cc (He.eqO_ok x5) (eqB_ok x6) (kc_ok X G c2 "Parse" (by decide +kernel)).cm)), no_Parse := (fun f hf => ?_), mk_Parse := He.mkr_ok (c.fact 84 (f := .mkr "Parse") rfl), kt_Number_Nothing := (kc_ok X G c2 "Number" (by decide +kernel)).kt "Nothing" (by decide +kernel), kt_Number_Number := (kc_ok X G c2 "Number" (by decide +kernel)).kt "Number" (by decide +kernel), kt_Number_Bits := (kc_ok X G c2 "Number" (by decide +kernel)).kt "Bits" (by decide +kernel), kt_Number_Call := (kc_ok X G c2 "Number" (by decide +kernel)).kt "Call" (by decide +kernel), kt_Number_Items := (kc_ok X G c2 "Number" (by decide +kernel)).kt "Items" (by decide +kernel), kt_Number_Choice := (kc_ok X G c2 "Number" (by decide +kernel)).kt "Choice" (by decide +kernel), kt_Number_Row := (kc_ok X G c2 "Number" (by decide +kernel)).kt "Row" (by decide +kernel), kt_Number_Door := (kc_ok X G c2 "Number" (by decide +kernel)).kt "Door" (by decide +kernel), kt_Number_BodyNode := (kc_ok X G c2 "Number" (by decide +kernel)).kt "BodyNode" (by decide +kernel), kt_TightNode_BodyNode := (kc_ok X G c2 "TightNode" (by decide +kernel)).kt "BodyNode" (by decide +kernel), kt_WideNode_BodyNode := (kc_ok X G c2 "WideNode" (by decide +kernel)).kt "BodyNode" (by decide +kernel), m_Number_init := F50, b_m_Number_init := ba50, bd_m_Number_init := bb50, m_Lengths_init := F51, b_m_Lengths_init := FunD.bindsN F51 fun _ _ _ _ _ _ us hl => match us, hl with | [_, _, _], _ => rfl, m_TightNode_init := F52, b_m_TightNode_init := FunD.bindsN F52 fun _ _ _ _ _ _ us hl => match us, hl with | [_, _, _], _ => rfl, m_TightNode_begin := F53, b_m_TightNode_begin := FunD.bindsN F53 fun _ _ _ _ _ _ us hl => match us, hl with | [_, _, _], _ => rfl, me_m_TightNode_begin := He.meth_ok (c.fact 85 (f := .meth "TightNode" "begin") rfl), m_TightNode_owed := F54, b_m_TightNode_owed := FunD.bindsN F54 fun _ _ _ _ _ _ us hl => match us, hl with | [_, _, _], _ => rfl, me_m_TightNode_owed := He.meth_ok (c.fact 86 (f := .meth "TightNode" "owed") rfl), m_TightNode_feed := F55, b_m_TightNode_feed := FunD.bindsN F55 fun _ _ _ _ _ _ us hl => match us, hl with | [_, _, _, _, _, _], _ => rfl, me_m_TightNode_feed := He.meth_ok (c.fact 87 (f := .meth "TightNode" "feed") rfl), m_WideNode_init := F56, b_m_WideNode_init := FunD.bindsN F56 fun _ _ _ _ _ _ us hl => match us, hl with | [_, _, _, _], _ => rfl, m_WideNode_begin := F57, b_m_WideNode_begin := FunD.bindsN F57 fun _ _ _ _ _ _ us hl => match us, hl with | [_, _, _], _ => rfl, me_m_WideNode_begin := He.meth_ok (c.fact 88 (f := .meth "WideNode" "begin") rfl), m_WideNode_owed := F58, b_m_WideNode_owed := FunD.bindsN F58 fun _ _ _ _ _ _ us hl => match us, hl with | [_, _, _], _ => rfl, me_m_WideNode_owed := He.meth_ok (c.fact 89 (f := .meth "WideNode" "owed") rfl), m_WideNode_feed := F59, b_m_WideNode_feed := FunD.bindsN F59 fun _ _ _ _ _ _ us hl => match us, hl with | [_, _, _, _, _, _], _ => rfl, me_m_WideNode_feed := He.meth_ok (c.fact 90 (f := .meth "WideNode" "feed") rfl), m_Plan_init := F60, b_m_Plan_init := FunD.bindsN F60 fun _ _ _ _ _ _ us hl => match us, hl with | [_, _, _], _ => rfl, m_Plan_node_of := F61, b_m_Plan_node_of := FunD.bindsN F61 fun _ _ _ _ _ _ us hl => match us, hl with | [_, _], _ => rfl, me_m_Plan_node_of := He.meth_ok (c.fact 91 (f := .meth "Plan" "node_of") rfl), m_Plan_made := F62, b_m_Plan_made := FunD.bindsN F62 fun _ _ _ _ _ _ us hl => match us, hl with | [_, _], _ => rfl, me_m_Plan_made := He.meth_ok (c.fact 92 (f := .meth "Plan" "made") rfl), m_Plan_same := F63, b_m_Plan_same := FunD.bindsN F63 fun _ _ _ _ _ _ us hl => match us, hl with | [_, _, _], _ => rfl, me_m_Plan_same := He.meth_ok (c.fact 93 (f := .meth "Plan" "same") rfl), m_Edition_init := F64, b_m_Edition_init := FunD.bindsN F64 fun _ _ _ _ _ _ us hl => match us, hl with | [_, _, _, _], _ => rfl, m_Draft_init := F65, b_m_Draft_init := FunD.bindsN F65 fun _ _ _ _ _ _ us hl => match us, hl with | [_, _], _ => rfl, m_Draft_as_bits := F66, b_m_Draft_as_bits := FunD.bindsN F66 fun _ _ _ _ _ _ us hl => match us, hl with | [_], _ => rfl, me_m_Draft_as_bits := He.meth_ok (c.fact 94 (f := .meth "Draft" "as_bits") rfl), m_Draft_write := F67, b_m_Draft_write := FunD.bindsN F67 fun _ _ _ _ _ _ us hl => match us, hl with | [_, _, _, _], _ => rfl, me_m_Draft_write := He.meth_ok (c.fact 95 (f := .meth "Draft" "write") rfl), m_Parse_init := F68, b_m_Parse_init := FunD.bindsN F68 fun _ _ _ _ _ _ us hl => match us, hl with | [_, _, _], _ => rfl, m_Parse_cut := F69, b_m_Parse_cut := FunD.bindsN F69 fun _ _ _ _ _ _ us hl => match us, hl with | [_, _], _ => rfl, me_m_Parse_cut := He.meth_ok (c.fact 96 (f := .meth "Parse" "cut") rfl), m_Parse_number := F70, b_m_Parse_number := FunD.bindsN F70 fun _ _ _ _ _ _ us hl => match us, hl with | [_, _], _ => rfl, me_m_Parse_number := He.meth_ok (c.fact 97 (f := .meth "Parse" "number") rfl), m_Parse_value := F71, b_m_Parse_value := FunD.bindsN F71 fun _ _ _ _ _ _ us hl => match us, hl with | [_, _], _ => rfl, me_m_Parse_value := He.meth_ok (c.fact 98 (f := .meth "Parse" "value") rfl), m_Parse_integer := F72, b_m_Parse_integer := FunD.bindsN F72 fun _ _ _ _ _ _ us hl => match us, hl with | [_, _], _ => rfl, me_m_Parse_integer := He.meth_ok (c.fact 99 (f := .meth "Parse" "integer") rfl), is_int := ⟨F0, He.glo_ok X G (c.fact 0 (f := .glo "is_int") rfl), FunD.bindsN F0 fun _ _ _ _ _ _ us hl => match us, hl with | [_], _ => rfl⟩, is_int_within := ⟨F1, He.glo_ok X G (c.fact 1 (f := .glo "is_int_within") rfl), FunD.bindsN F1 fun _ _ _ _ _ _ us hl => match us, hl with | [_, _, _], _ => rfl⟩, is_name := ⟨F2, He.glo_ok X G (c.fact 2 (f := .glo "is_name") rfl), FunD.bindsN F2 fun _ _ _ _ _ _ us hl => match us, hl with | [_], _ => rfl⟩, is_bits := ⟨F3, He.glo_ok X G (c.fact 3 (f := .glo "is_bits") rfl), FunD.bindsN F3 fun _ _ _ _ _ _ us hl => match us, hl with | [_], _ => rfl⟩, how_many_integers := ⟨F4, He.glo_ok X G (c.fact 4 (f := .glo "how_many_integers") rfl), FunD.bindsN F4 fun _ _ _ _ _ _ us hl => match us, hl with | [_], _ => rfl⟩, tight_code := ⟨F5, He.glo_ok X G (c.fact 5 (f := .glo "tight_code") rfl), FunD.bindsN F5 fun _ _ _ _ _ _ us hl => match us, hl with | [_], _ => rfl⟩, bits_of := ⟨F6, He.glo_ok X G (c.fact 6 (f := .glo "bits_of") rfl), FunD.bindsN F6 fun _ _ _ _ _ _ us hl => match us, hl with | [_, _], _ => rfl⟩, number_bits := ⟨F7, He.glo_ok X G (c.fact 7 (f := .glo "number_bits") rfl), FunD.bindsN F7 fun _ _ _ _ _ _ us hl => match us, hl with | [_, _], _ => rfl⟩, is_simple := ⟨F8, He.glo_ok X G (c.fact 8 (f := .glo "is_simple") rfl), FunD.bindsN F8 fun _ _ _ _ _ _ us hl => match us, hl with | [_], _ => rfl⟩, inner_kinds := ⟨F9, He.glo_ok X G (c.fact 9 (f := .glo "inner_kinds") rfl), FunD.bindsN F9 fun _ _ _ _ _ _ us hl => match us, hl with | [_], _ => rfl⟩, called_names := ⟨F10, He.glo_ok X G (c.fact 10 (f := .glo "called_names") rfl), FunD.bindsN F10 fun _ _ _ _ _ _ us hl => match us, hl with | [_], _ => rfl⟩, reached_names := ⟨F11, He.glo_ok X G (c.fact 11 (f := .glo "reached_names") rfl), FunD.bindsN F11 fun _ _ _ _ _ _ us hl => match us, hl with | [_, _], _ => rfl⟩, checked_calls := ⟨F12, He.glo_ok X G (c.fact 12 (f := .glo "checked_calls") rfl), FunD.bindsN F12 fun _ _ _ _ _ _ us hl => match us, hl with | [_], _ => rfl⟩, check_bodies := ⟨F13, He.glo_ok X G (c.fact 13 (f := .glo "check_bodies") rfl), FunD.bindsN F13 fun _ _ _ _ _ _ us hl => match us, hl with | [_, _], _ => rfl⟩, bodies_of := ⟨F14, He.glo_ok X G (c.fact 14 (f := .glo "bodies_of") rfl), FunD.bindsN F14 fun _ _ _ _ _ _ us hl => match us, hl with | [_], _ => rfl⟩, rooms_of := ⟨F15, He.glo_ok X G (c.fact 15 (f := .glo "rooms_of") rfl), FunD.bindsN F15 fun _ _ _ _ _ _ us hl => match us, hl with | [_], _ => rfl⟩, ended := ⟨F16, He.glo_ok X G (c.fact 16 (f := .glo "ended") rfl), FunD.bindsN F16 fun _ _ _ _ _ _ us hl => match us, hl with | [_, _], _ => rfl⟩, number_node := ⟨F17, He.glo_ok X G (c.fact 17 (f := .glo "number_node") rfl), FunD.bindsN F17 fun _ _ _ _ _ _ us hl => match us, hl with | [_], _ => rfl⟩, first_threads := ⟨F18, He.glo_ok X G (c.fact 18 (f := .glo "first_threads") rfl), FunD.bindsN F18 fun _ _ _ _ _ _ us hl => match us, hl with | [_], _ => rfl⟩, lack_of := ⟨F19, He.glo_ok X G (c.fact 19 (f := .glo "lack_of") rfl), FunD.bindsN F19 fun _ _ _ _ _ _ us hl => match us, hl with | [_], _ => rfl⟩, fed := ⟨F20, He.glo_ok X G (c.fact 20 (f := .glo "fed") rfl), FunD.bindsN F20 fun _ _ _ _ _ _ us hl => match us, hl with | [_, _], _ => rfl⟩, path_of := ⟨F21, He.glo_ok X G (c.fact 21 (f := .glo "path_of") rfl), FunD.bindsN F21 fun _ _ _ _ _ _ us hl => match us, hl with | [_], _ => rfl⟩, fed_all := ⟨F22, He.glo_ok X G (c.fact 22 (f := .glo "fed_all") rfl), FunD.bindsN F22 fun _ _ _ _ _ _ us hl => match us, hl with | [_, _], _ => rfl⟩, are_whole := ⟨F23, He.glo_ok X G (c.fact 23 (f := .glo "are_whole") rfl), FunD.bindsN F23 fun _ _ _ _ _ _ us hl => match us, hl with | [_], _ => rfl⟩, least_lack := ⟨F24, He.glo_ok X G (c.fact 24 (f := .glo "least_lack") rfl), FunD.bindsN F24 fun _ _ _ _ _ _ us hl => match us, hl with | [_], _ => rfl⟩, check_parts := ⟨F25, He.glo_ok X G (c.fact 25 (f := .glo "check_parts") rfl), FunD.bindsN F25 fun _ _ _ _ _ _ us hl => match us, hl with | [_, _, _], _ => rfl⟩, are_kinds := ⟨F26, He.glo_ok X G (c.fact 26 (f := .glo "are_kinds") rfl), FunD.bindsN F26 fun _ _ _ _ _ _ us hl => match us, hl with | [_], _ => rfl⟩, is_named_kind := ⟨F27, He.glo_ok X G (c.fact 27 (f := .glo "is_named_kind") rfl), FunD.bindsN F27 fun _ _ _ _ _ _ us hl => match us, hl with | [_], _ => rfl⟩, check_rooms := ⟨F28, He.glo_ok X G (c.fact 28 (f := .glo "check_rooms") rfl), FunD.bindsN F28 fun _ _ _ _ _ _ us hl => match us, hl with | [_, _], _ => rfl⟩, taken_room := ⟨F29, He.glo_ok X G (c.fact 29 (f := .glo "taken_room") rfl), FunD.bindsN F29 fun _ _ _ _ _ _ us hl => match us, hl with | [_, _], _ => rfl⟩, kind_name := ⟨F30, He.glo_ok X G (c.fact 30 (f := .glo "kind_name") rfl), FunD.bindsN F30 fun _ _ _ _ _ _ us hl => match us, hl with | [_, _], _ => rfl⟩, written := ⟨F31, He.glo_ok X G (c.fact 31 (f := .glo "written") rfl), ba31, bb31⟩, check := ⟨F32, He.glo_ok X G (c.fact 32 (f := .glo "check") rfl), FunD.bindsN F32 fun _ _ _ _ _ _ us hl => match us, hl with | [_, _], _ => rfl⟩, read := ⟨F33, He.glo_ok X G (c.fact 33 (f := .glo "read") rfl), ba33, bb33⟩, read_first := ⟨F34, He.glo_ok X G (c.fact 34 (f := .glo "read_first") rfl), ba34, bb34⟩, first_end := ⟨F35, He.glo_ok X G (c.fact 35 (f := .glo "first_end") rfl), FunD.bindsN F35 fun _ _ _ _ _ _ us hl => match us, hl with | [_, _], _ => rfl⟩, is_value := ⟨F36, He.glo_ok X G (c.fact 36 (f := .glo "is_value") rfl), ba36, bb36⟩, _law_same := ⟨F37, He.glo_ok X G (c.fact 37 (f := .glo "_law_same") rfl), FunD.bindsN F37 fun _ _ _ _ _ _ us hl => match us, hl with | [_, _], _ => rfl⟩, _law_start := ⟨F38, He.glo_ok X G (c.fact 38 (f := .glo "_law_start") rfl), FunD.bindsN F38 fun _ _ _ _ _ _ us hl => match us, hl with | [_], _ => rfl⟩, _law_pull := ⟨F39, He.glo_ok X G (c.fact 39 (f := .glo "_law_pull") rfl), FunD.bindsN F39 fun _ _ _ _ _ _ us hl => match us, hl with | [_, _], _ => rfl⟩, _law_big := ⟨F40, He.glo_ok X G (c.fact 40 (f := .glo "_law_big") rfl), FunD.bindsN F40 fun _ _ _ _ _ _ us hl => match us, hl with | [_, _], _ => rfl⟩, _law_binary := ⟨F41, He.glo_ok X G (c.fact 41 (f := .glo "_law_binary") rfl), FunD.bindsN F41 fun _ _ _ _ _ _ us hl => match us, hl with | [_, _], _ => rfl⟩, _law_code := ⟨F42, He.glo_ok X G (c.fact 42 (f := .glo "_law_code") rfl), FunD.bindsN F42 fun _ _ _ _ _ _ us hl => match us, hl with | [_, _, _], _ => rfl⟩, _law_due := ⟨F43, He.glo_ok X G (c.fact 43 (f := .glo "_law_due") rfl), FunD.bindsN F43 fun _ _ _ _ _ _ us hl => match us, hl with | [_, _, _], _ => rfl⟩, _law_told := ⟨F44, He.glo_ok X G (c.fact 44 (f := .glo "_law_told") rfl), FunD.bindsN F44 fun _ _ _ _ _ _ us hl => match us, hl with | [_, _, _], _ => rfl⟩, _law_refused := ⟨F45, He.glo_ok X G (c.fact 45 (f := .glo "_law_refused") rfl), FunD.bindsN F45 fun _ _ _ _ _ _ us hl => match us, hl with | [_, _], _ => rfl⟩, _law_values_hold := ⟨F46, He.glo_ok X G (c.fact 46 (f := .glo "_law_values_hold") rfl), FunD.bindsN F46 fun _ _ _ _ _ _ us hl => match us, hl with | [_, _, _, _, _], _ => rfl⟩, _law_rows_hold := ⟨F47, He.glo_ok X G (c.fact 47 (f := .glo "_law_rows_hold") rfl), FunD.bindsN F47 fun _ _ _ _ _ _ us hl => match us, hl with | [_, _, _, _, _], _ => rfl⟩, _law_fills := ⟨F48, He.glo_ok X G (c.fact 48 (f := .glo "_law_fills") rfl), FunD.bindsN F48 fun _ _ _ _ _ _ us hl => match us, hl with | [_, _, _], _ => rfl⟩, law := ⟨F49, He.glo_ok X G (c.fact 49 (f := .glo "law") rfl), FunD.bindsN F49 fun _ _ _ _ _ _ us hl => match us, hl with | [_], _ => rfl⟩ }
  · refine er_ok X G c2 (fun _ => rfl) (fun _ => rfl) i hi ?_ ?_
    · match i, hi with
      | 0, _ => exact F73
      | 1, _ => exact F74
      | 2, _ => exact F75
      | 3, _ => exact F76
    · match i, hi with
      | 0, _ => exact FunD.bindsN F73 fun _ _ _ _ _ _ us hl => match us, hl with | [_, _], _ => rfl
      | 1, _ => exact FunD.bindsN F74 fun _ _ _ _ _ _ us hl => match us, hl with | [_, _], _ => rfl
      | 2, _ => exact FunD.bindsN F75 fun _ _ _ _ _ _ us hl => match us, hl with | [_, _], _ => rfl
      | 3, _ => exact FunD.bindsN F76 fun _ _ _ _ _ _ us hl => match us, hl with | [_, _], _ => rfl
  · exact He.noat_ok (c.facts (noat_mem (c := "Number") (by decide +kernel) hf))
  · exact He.noat_ok (c.facts (noat_mem (c := "Lengths") (by decide +kernel) hf))
  · exact He.noat_ok (c.facts (noat_mem (c := "TightNode") (by decide +kernel) hf))
  · exact He.noat_ok (c.facts (noat_mem (c := "WideNode") (by decide +kernel) hf))
  · exact He.noat_ok (c.facts (noat_mem (c := "Plan") (by decide +kernel) hf))
  · exact He.noat_ok (c.facts (noat_mem (c := "Edition") (by decide +kernel) hf))
  · exact He.noat_ok (c.facts (noat_mem (c := "Draft") (by decide +kernel) hf))
  · exact He.noat_ok (c.facts (noat_mem (c := "Parse") (by decide +kernel) hf))
end
end Me
set_option maxHeartbeats 0
open PySem PySem.W PySem.Calls PyProof.Rows
theorem PySem.Challenge.cw_roomleft_k10_numbers_tight_and_wide_holds : PySem.Challenge.rw_roomleft_k10_numbers_tight_and_wide.Holds := by
  w_on; o_law
  refine HandSHeadRun.head_any (r := OpenLaw.row PySem.Challenge.rw_roomleft_k10_numbers_tight_and_wide) (q := view (OpenLaw.row PySem.Challenge.rw_roomleft_k10_numbers_tight_and_wide).prog [117]) (H := Me.hk) (ob := Me.ob) (M := 20000) (loose := Me.loose)
    (d := HandSHeadRun.topDef (OpenLaw.row PySem.Challenge.rw_roomleft_k10_numbers_tight_and_wide).prog 117) (kwd := []) Me.ob_eq
    (by kernel_rfl) (fun s => by kernel_rfl) Me.run (by kernel_rfl) (by kernel_rfl) (by kernel_rfl) (by rfl) (by first | assumption | decide +kernel) (by decide +kernel) ⟨rfl, rfl, rfl, rfl, rfl, by decide +kernel⟩ ?hw ?hc
  case hw => w_witness2
  case hc =>
    refine LamX.walk_ofTsE (l := PySem.Challenge.rw_roomleft_k10_numbers_tight_and_wide) (n := 63) (k := 11) (x := "_law_script") (CX := fun _ => L2.CX0) rfl (by decide) (by kernel_rfl) ⟨rfl, by decide, by decide⟩ ?F (fun _ _ _ _ _ z => z)
    intro w mg f h Y G hmg0
    obtain ⟨K, KX, c⟩ := Y
    have hmg : mg ("law" : PySem.Str) = some (.ref f) := by
      have e : (HandSHeadRun.topDef (OpenLaw.row PySem.Challenge.rw_roomleft_k10_numbers_tight_and_wide).prog 117).name = ("law" : PySem.Str) := by kernel_rfl
      rw [← e]
      exact hmg0
    obtain ⟨a, ea, et, T⟩ := Me.mk_txt KX G c.t
    have ef := hmg.symm.trans T.law.mg
    cases ef
    have hm : (("check_rooms", none) : He.Defn) ∈ Me.tf := List.mem_cons_self
    have e1 := c.empty _ hm
    have e2 := c.out _ hm
    have e3 := c.hd _ hm
    rw [← et] at e1 e2 e3
    refine ⟨K, KX, a.law.fd, [(a.tc, a.tp)], Me.spLaw K a, fun p hp => by rw [List.mem_singleton.mp hp]; exact e1, fun p hp => by rw [List.mem_singleton.mp hp]; exact e2, fun p hp => by rw [List.mem_singleton.mp hp]; exact PySem.W.codeHd_of_K KX e3, fun s v => ?_, fun H b ns hl _ hT hS => ⟨b, ns, rfl, hS, hl, fun p hp => by rw [List.mem_singleton.mp hp]; exact LamX.TabS.nil (hT _ List.mem_cons_self), fun _ => rfl⟩, fun base _ _ TB => Me.ok_law T (TB _ List.mem_cons_self)⟩
    exact L2.FunD.bindsA (ps := ["_law_script"]) T.law.fn (fun _ _ _ _ _ _ us hl => match us, hl with | [_], _ => rfl) s [v] rfl
