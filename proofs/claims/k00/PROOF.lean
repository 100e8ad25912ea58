import PyProof.Rows.All
import Wide.All
import OpenK.AllK
import Wide.FinOn
import KE.KStateDown
import HandS.Words
import HandS.ExcIs
import KE.KExcInit
import HandS.HeadHook1
import HandS.Head0
import HandS.Head1
import HandS.Head2
import HandS.ForMost
import HandS.IsInst
import HandS.TupMul
import HandS.TupAny
import HandS.ExcInit
import HandS.ExcField
import HandS.ExcValue
import HandS.Style
import HandS.Text
import HandS.Deep
import HandS.Steps
import PyProof.NeKinds
import HandS.Star
import HandS.ClsMeth
import KE.KExcMake
import KE.KExcIs
import PySem.Challenge.RW_weandthey_k00_errors_made_by_hand
set_option Elab.async false
set_option linter.all false
set_option maxRecDepth 100000
set_option maxHeartbeats 0
namespace DL
open PySem L2 PyProof.Rows
abbrev exN : List Str := ["BadText", "BadProgram", "BadGift", "BadNumber", "BadTurns", "BadRows", "NotParted", "NotTheirs", "IsGiven", "NotGiven", "NoGift", "Lost", "Busy", "TooManyEdits", "NothingToUndo", "NothingToRedo", "BadEdits", "BadEdit", "Rejected", "PlayError", "NoPlace", "NoVersion"]
abbrev exL : List Str := ["NoPlace", "NoVersion"]
def tabV (y z : Str) : Bool := z == y || (y == "LookupError" && exL.contains z) || ((y == "ValueError" || y == "PlayError") && !exL.contains z)
def exB (K : PySem.W.Frag) (C : Addr) : Bool :=
  decide (PySem.W.findIn K (.ref C) "__getattribute__" = some (some (.builtin "BaseException.__getattribute__"))) && (decide (PySem.W.findIn K (.ref C) "__getattr__" = some none) &&
  (decide (PySem.W.subIn K (.ref C) (.type "BaseException") = some true) && (PySem.W.hasDictIn K C && (decide (PySem.W.findIn K (.ref C) "__class__" = some (some (.builtin "object.__class__"))) &&
  (decide (PySem.W.specialIn K (.builtin "object.__class__") "__get__" = some (some (.builtin "getset_descriptor.__get__"))) && (decide (PySem.W.takesIn K (.builtin "object.__class__") = some true) &&
  decide (PySem.W.mroIn K C (.type "object") = some true)))))))
def famT (K : PySem.W.Frag) (al : List (Str × Addr)) (y : Str) (cv : Value) : Bool := al.all fun q => decide (PySem.W.kitOne K (.ref q.2) cv = some (tabV y q.1))
def clsInit : Stmt → Stmt
  | .ClassDef _ _ _ body _ _ _ _ _ _ _ => body.getD 0 (.Pass ⟨0, 0, 0, 0⟩)
  | s => s
abbrev bmV : List Value := [.type "ValueError", .type "Exception", .type "BaseException", .type "object"]
abbrev bmL : List Value := [.type "LookupError", .type "Exception", .type "BaseException", .type "object"]
def exKB (K : PySem.W.Frag) (C : Addr) (bmB : List Value) (newId : String) : Bool :=
  PySem.W.excInitIn K C bmB newId && (PySem.W.excOver K C bmB && (decide (PySem.W.findIn K (.ref C) "__setattr__" = some (some (.builtin "object.__setattr__"))) && (PySem.W.keepIn K (.ref C) && exB K C)))
def hookA (as : List Addr) (fa : List He.Fa) (fn : List He.FnD) (ex : PySem.W.Frag → Bool) : PySem.W.Hook where
  α := He.Al × Bool
  obs := fun s => (He.obsE fa fn (He.frG s.heap.get? as), ex (He.frG s.heap.get? as))
  val := fun _ => (He.valE fn, true)
  says := fun _ h => ∃ K : PySem.W.Frag, K.In h ∧ He.SaysE fa fn K ∧ ex K = true
  of := fun _ _ e => ⟨_, He.frG_in, congrArg (fun z : He.Al × Bool => z.1) e, congrArg (fun z : He.Al × Bool => z.2) e⟩
  keeps := fun _ _ _ ⟨K, hK, c⟩ k => ⟨K, PySem.W.Frag.In.keeps hK k, c⟩
def alK (K : PySem.W.Frag) : List (Str × Addr) := exN.map fun x => (x, He.ga K x)
def famB (K : PySem.W.Frag) : Bool := ((alK K).all fun q => decide (PySem.W.nsIn K mainGlobals q.1 = some (some (.ref q.2)))) && (((alK K).all fun q => exB K q.2) && (((alK K).all fun r => famT K (alK K) r.1 (.ref r.2)) &&
  (famT K (alK K) "LookupError" (.type "LookupError") && famT K (alK K) "ValueError" (.type "ValueError"))))
def iniB (K : PySem.W.Frag) (bm : List Value) (new : String) (p : Str × Str) : Bool :=
  exKB K (He.ga K p.1) bm new && (decide (PySem.W.findIn K (.ref (He.ga K p.1)) p.2 = some none) && (decide (PySem.W.findIn K (.ref (He.ga K p.1)) "__init__" = some (some (.ref (He.ma K (He.ga K p.1) "__init__")))) &&
  (decide (PySem.W.typeIn K (.ref (He.ma K (He.ga K p.1) "__init__")) = some (.type "function")) && PySem.W.keepIn K (.ref (He.ma K (He.ga K p.1) "__init__")))))
def noB (K : PySem.W.Frag) (x : Str) : Bool := exKB K (He.ga K x) bmV "ValueError.__new__" && decide (PySem.W.findIn K (.ref (He.ga K x)) "__init__" = some (some (.builtin "ValueError.__init__")))
def kcB (K : PySem.W.Frag) (x f : Str) (n : Int) : Bool := decide (PySem.W.nsIn K mainGlobals x = some (some (.ref (He.ga K x)))) && (PySem.W.readsIn K (He.ga K x) (.type "type") && (decide (PySem.W.specialIn K (.ref (He.ga K x)) "__getattribute__" = some (some (.builtin "type.__getattribute__"))) &&
  (match PySem.W.findCls K (.ref (He.ga K x)) (.type "type") f with | some (.val (.int m _)) => decide (m = n) | _ => false)))
end DL
namespace K00
open PySem PySem.Spec L2 DL
def top (i : Nat) : Stmt := PySem.Challenge.pw_weandthey_k00_errors_made_by_hand.main.body.getD i (.Pass ⟨0, 0, 0, 0⟩)
abbrev st__law_deck : Stmt := top 132
abbrev st__law_draw : Stmt := top 133
abbrev st__law_one : Stmt := top 134
abbrev st__law_value : Stmt := top 135
abbrev st__law_kinds : Stmt := top 136
abbrev st__law_kinds_right : Stmt := top 137
abbrev st__law_fields_right : Stmt := top 138
abbrev st__law_bounds : Stmt := top 139
abbrev st_law : Stmt := top 140
abbrev st_C_BadText : Stmt := clsInit (top 3)
abbrev st_C_BadProgram : Stmt := clsInit (top 4)
abbrev st_C_BadGift : Stmt := clsInit (top 5)
abbrev st_C_BadNumber : Stmt := clsInit (top 6)
abbrev st_C_BadTurns : Stmt := clsInit (top 7)
abbrev st_C_BadRows : Stmt := clsInit (top 8)
abbrev st_C_NotTheirs : Stmt := clsInit (top 10)
abbrev st_C_IsGiven : Stmt := clsInit (top 11)
abbrev st_C_NotGiven : Stmt := clsInit (top 12)
abbrev st_C_Lost : Stmt := clsInit (top 14)
abbrev st_C_BadEdit : Stmt := clsInit (top 20)
abbrev st_C_Rejected : Stmt := clsInit (top 21)
abbrev st_C_NoPlace : Stmt := clsInit (top 22)
abbrev st_C_NoVersion : Stmt := clsInit (top 23)
def as0 : List Addr := [2, 3, 22, 29, 30, 31, 32, 35, 42, 43, 44, 45, 46, 47, 48, 49, 50, 51, 54, 61, 62, 63, 64, 65, 66, 67, 68, 69, 70, 73]
def as1 : List Addr := [80, 81, 82, 83, 84, 85, 86, 87, 88, 89, 92, 99, 100, 101, 102, 103, 104, 105, 106, 107, 108, 111, 118, 119, 120, 121, 122, 123, 124, 125]
def as2 : List Addr := [126, 127, 130, 137, 138, 139, 140, 141, 142, 143, 144, 145, 146, 149, 156, 157, 158, 161, 168, 169, 170, 171, 172, 173, 174, 175, 176, 177, 180, 187]
def as3 : List Addr := [188, 189, 190, 191, 192, 193, 194, 195, 196, 199, 206, 207, 208, 209, 210, 211, 212, 213, 214, 215, 218, 225, 226, 227, 230, 237, 238, 239, 240, 241]
def as4 : List Addr := [242, 243, 244, 245, 246, 249, 256, 257, 258, 261, 268, 269, 270, 273, 280, 281, 282, 285, 292, 293, 294, 297, 304, 305, 306, 309, 316, 317, 318, 319]
def as5 : List Addr := [320, 321, 322, 323, 324, 325, 328, 335, 336, 337, 338, 339, 340, 341, 342, 343, 344, 347, 354, 355, 356, 357, 358, 359, 360, 361, 362, 363, 364, 367]
def as6 : List Addr := [374, 375, 376, 377, 378, 379, 380, 381, 382, 383, 384, 1096, 1097, 1117, 1118, 1121, 1122, 1123, 1124, 1125, 1126, 1127, 1128, 1129, 1130, 1131, 1132, 1133, 1134, 1135]
def as7 : List Addr := [1136, 1137, 1138, 1139, 1140, 1141, 1142, 1143, 1144, 1145, 1146, 1147, 1148, 1149, 1150, 1151, 1152, 1153, 1154, 1155, 1156, 1157, 1158, 1159, 1160, 1161, 1162, 1163, 1164, 1165]
def as8 : List Addr := [1166, 1167, 1168, 1169, 1170, 1171, 1172, 1173, 1174, 1175, 1176, 1177]
def asL : List Addr := as0 ++ (as1 ++ (as2 ++ (as3 ++ (as4 ++ (as5 ++ (as6 ++ (as7 ++ (as8))))))))
def fa : List He.Fa := [.glo "_law_deck", .glo "_law_draw", .glo "_law_one", .glo "_law_value", .glo "_law_kinds", .glo "_law_kinds_right", .glo "_law_fields_right", .glo "_law_bounds", .glo "law", .keep "_law_deck", .keep "_law_draw", .keep "_law_one", .keep "_law_value", .keep "_law_kinds", .keep "_law_kinds_right", .keep "_law_fields_right", .keep "_law_bounds", .keep "law", .free "LookupError", .free "ValueError", .free "abs", .free "int", .free "isinstance", .free "len", .free "range", .free "repr", .free "str", .int "MAX_COMPARINGS" 2, .int "MAX_NEST" 3, .int "MAX_PERIOD" 1000000, .int "MAX_EDITS" 60, .int "BATCH" 20, .int "MAX_NAME" 8, .int "MAX_TIMES" 8, .int "MAX_DEEP" 3, .int "MAX_NOTS" 2, .int "MAX_BY" 6, .int "MAX_PLACES" 24, .int "MAX_WEIGHT" 30, .int "MAX_CHOICES" 4, .int "MAX_RESTS" 2]
def D__law_deck : He.FnD := ⟨("_law_deck", none), "_law_deck", "_law_deck", defArgs st__law_deck, defBody st__law_deck, defScope st__law_deck⟩
def D__law_draw : He.FnD := ⟨("_law_draw", none), "_law_draw", "_law_draw", defArgs st__law_draw, defBody st__law_draw, defScope st__law_draw⟩
def D__law_one : He.FnD := ⟨("_law_one", none), "_law_one", "_law_one", defArgs st__law_one, defBody st__law_one, defScope st__law_one⟩
def D__law_value : He.FnD := ⟨("_law_value", none), "_law_value", "_law_value", defArgs st__law_value, defBody st__law_value, defScope st__law_value⟩
def D__law_kinds : He.FnD := ⟨("_law_kinds", none), "_law_kinds", "_law_kinds", defArgs st__law_kinds, defBody st__law_kinds, defScope st__law_kinds⟩
def D__law_kinds_right : He.FnD := ⟨("_law_kinds_right", none), "_law_kinds_right", "_law_kinds_right", defArgs st__law_kinds_right, defBody st__law_kinds_right, defScope st__law_kinds_right⟩
def D__law_fields_right : He.FnD := ⟨("_law_fields_right", none), "_law_fields_right", "_law_fields_right", defArgs st__law_fields_right, defBody st__law_fields_right, defScope st__law_fields_right⟩
def D__law_bounds : He.FnD := ⟨("_law_bounds", none), "_law_bounds", "_law_bounds", defArgs st__law_bounds, defBody st__law_bounds, defScope st__law_bounds⟩
def D_law : He.FnD := ⟨("law", none), "law", "law", defArgs st_law, defBody st_law, defScope st_law⟩
def D_C_BadText : He.FnD := ⟨("BadText", some "__init__"), "__init__", "BadText.__init__", defArgs st_C_BadText, defBody st_C_BadText, defScope st_C_BadText⟩
def D_C_BadProgram : He.FnD := ⟨("BadProgram", some "__init__"), "__init__", "BadProgram.__init__", defArgs st_C_BadProgram, defBody st_C_BadProgram, defScope st_C_BadProgram⟩
def D_C_BadGift : He.FnD := ⟨("BadGift", some "__init__"), "__init__", "BadGift.__init__", defArgs st_C_BadGift, defBody st_C_BadGift, defScope st_C_BadGift⟩
def D_C_BadNumber : He.FnD := ⟨("BadNumber", some "__init__"), "__init__", "BadNumber.__init__", defArgs st_C_BadNumber, defBody st_C_BadNumber, defScope st_C_BadNumber⟩
def D_C_BadTurns : He.FnD := ⟨("BadTurns", some "__init__"), "__init__", "BadTurns.__init__", defArgs st_C_BadTurns, defBody st_C_BadTurns, defScope st_C_BadTurns⟩
def D_C_BadRows : He.FnD := ⟨("BadRows", some "__init__"), "__init__", "BadRows.__init__", defArgs st_C_BadRows, defBody st_C_BadRows, defScope st_C_BadRows⟩
def D_C_NotTheirs : He.FnD := ⟨("NotTheirs", some "__init__"), "__init__", "NotTheirs.__init__", defArgs st_C_NotTheirs, defBody st_C_NotTheirs, defScope st_C_NotTheirs⟩
def D_C_IsGiven : He.FnD := ⟨("IsGiven", some "__init__"), "__init__", "IsGiven.__init__", defArgs st_C_IsGiven, defBody st_C_IsGiven, defScope st_C_IsGiven⟩
def D_C_NotGiven : He.FnD := ⟨("NotGiven", some "__init__"), "__init__", "NotGiven.__init__", defArgs st_C_NotGiven, defBody st_C_NotGiven, defScope st_C_NotGiven⟩
def D_C_Lost : He.FnD := ⟨("Lost", some "__init__"), "__init__", "Lost.__init__", defArgs st_C_Lost, defBody st_C_Lost, defScope st_C_Lost⟩
def D_C_BadEdit : He.FnD := ⟨("BadEdit", some "__init__"), "__init__", "BadEdit.__init__", defArgs st_C_BadEdit, defBody st_C_BadEdit, defScope st_C_BadEdit⟩
def D_C_Rejected : He.FnD := ⟨("Rejected", some "__init__"), "__init__", "Rejected.__init__", defArgs st_C_Rejected, defBody st_C_Rejected, defScope st_C_Rejected⟩
def D_C_NoPlace : He.FnD := ⟨("NoPlace", some "__init__"), "__init__", "NoPlace.__init__", defArgs st_C_NoPlace, defBody st_C_NoPlace, defScope st_C_NoPlace⟩
def D_C_NoVersion : He.FnD := ⟨("NoVersion", some "__init__"), "__init__", "NoVersion.__init__", defArgs st_C_NoVersion, defBody st_C_NoVersion, defScope st_C_NoVersion⟩
def fn : List He.FnD := [D__law_deck, D__law_draw, D__law_one, D__law_value, D__law_kinds, D__law_kinds_right, D__law_fields_right, D__law_bounds, D_law, D_C_BadText, D_C_BadProgram, D_C_BadGift, D_C_BadNumber, D_C_BadTurns, D_C_BadRows, D_C_NotTheirs, D_C_IsGiven, D_C_NotGiven, D_C_Lost, D_C_BadEdit, D_C_Rejected, D_C_NoPlace, D_C_NoVersion]
def ex (K : PySem.W.Frag) : Bool := famB K && (iniB K bmV "ValueError.__new__" ("BadText", "line") && (iniB K bmV "ValueError.__new__" ("BadProgram", "error") && (iniB K bmV "ValueError.__new__" ("BadGift", "value") && (iniB K bmV "ValueError.__new__" ("BadNumber", "number") && (iniB K bmV "ValueError.__new__" ("BadTurns", "turns") && (iniB K bmV "ValueError.__new__" ("BadRows", "index") && (noB K "NotParted" && (iniB K bmV "ValueError.__new__" ("NotTheirs", "place") && (iniB K bmV "ValueError.__new__" ("IsGiven", "place") && (iniB K bmV "ValueError.__new__" ("NotGiven", "place") && (noB K "NoGift" && (iniB K bmV "ValueError.__new__" ("Lost", "number") && (noB K "Busy" && (noB K "TooManyEdits" && (noB K "NothingToUndo" && (noB K "NothingToRedo" && (noB K "BadEdits" && (iniB K bmV "ValueError.__new__" ("BadEdit", "index") && (iniB K bmV "ValueError.__new__" ("Rejected", "index") && (noB K "PlayError" && (iniB K bmL "LookupError.__new__" ("NoPlace", "place") && (iniB K bmL "LookupError.__new__" ("NoVersion", "version") && (kcB K "Bench" "MOST_EDITS" 60 && (kcB K "WonBench" "MOST_EDITS" 60))))))))))))))))))))))))
abbrev hk : PySem.W.Hook := hookA asL fa fn ex
def l0 : List Str := [("_wall" : Str), ("PlayError" : Str), ("BadText" : Str), ("BadProgram" : Str), ("BadGift" : Str), ("BadNumber" : Str), ("BadTurns" : Str), ("BadRows" : Str), ("NotParted" : Str), ("NotTheirs" : Str), ("IsGiven" : Str), ("NotGiven" : Str), ("NoGift" : Str), ("Lost" : Str), ("Busy" : Str), ("TooManyEdits" : Str), ("NothingToUndo" : Str), ("NothingToRedo" : Str), ("BadEdits" : Str), ("BadEdit" : Str), ("Rejected" : Str), ("NoPlace" : Str), ("NoVersion" : Str), ("MAX_NAME" : Str), ("MAX_TIMES" : Str), ("MAX_DEEP" : Str), ("MAX_NOTS" : Str), ("MAX_BY" : Str), ("MAX_PLACES" : Str), ("MAX_WEIGHT" : Str), ("MAX_CHOICES" : Str), ("MAX_RESTS" : Str), ("MAX_COMPARINGS" : Str), ("MAX_NEST" : Str), ("MAX_PERIOD" : Str)]
def l1 : List Str := [("MAX_EDITS" : Str), ("BATCH" : Str), ("LETTERS" : Str), ("DIGITS" : Str), ("WORDS" : Str), ("MAX_CONSTANT" : Str), ("MAX_FACTOR" : Str), ("STATEMENTS" : Str), ("TESTS" : Str), ("EXPRESSIONS" : Str), ("KINDS" : Str), ("is_integer" : Str), ("is_within" : Str), ("is_name" : Str), ("has_form" : Str), ("is_expression" : Str), ("is_test" : Str), ("blocks_of" : Str), ("is_statement" : Str), ("fault_in" : Str), ("kind_of" : Str), ("counted" : Str), ("bound_passed" : Str), ("program_error" : Str), ("rows_in" : Str), ("size_of" : Str), ("statement_at" : Str), ("rebuilt" : Str), ("common_divisor" : Str), ("common_multiple" : Str), ("later" : Str), ("sooner" : Str), ("is_between" : Str), ("least_from" : Str), ("greatest_to" : Str)]
def l2 : List Str := [("has_any" : Str), ("rank" : Str), ("first_of" : Str), ("first_in" : Str), ("pieces_of" : Str), ("overlaid" : Str), ("cells_of" : Str), ("NOWHERE" : Str), ("plus" : Str), ("times" : Str), ("minus" : Str), ("told_by" : Str), ("reaching" : Str), ("joined" : Str), ("cut" : Str), ("HANDS" : Str), ("value_of" : Str), ("is_true" : Str), ("to_choice" : Str), ("tree_behind" : Str), ("tree_of" : Str), ("form_of" : Str), ("question_of" : Str), ("fork_of" : Str), ("sole_block" : Str), ("chart_behind" : Str), ("rests_in" : Str), ("on_rest" : Str), ("charts_of" : Str), ("parts_in" : Str), ("columns_in" : Str), ("plan_at_end" : Str), ("plan_at_fork" : Str), ("plan_at_choice" : Str), ("plans_of" : Str)]
def l3 : List Str := [("first_lost" : Str), ("lost" : Str), ("worth_in" : Str), ("theirs_in" : Str), ("is_gift" : Str), ("given_in" : Str), ("gifted" : Str), ("replaced" : Str), ("replaced_within" : Str), ("given_more" : Str), ("given_less" : Str), ("moved_along" : Str), ("asked" : Str), ("edited" : Str), ("Bench" : Str), ("WonBench" : Str), ("_law_deck" : Str), ("_law_draw" : Str), ("_law_one" : Str), ("_law_value" : Str), ("_law_kinds" : Str), ("_law_kinds_right" : Str), ("_law_fields_right" : Str), ("_law_bounds" : Str)]
def loose : List Str := l0 ++ (l1 ++ (l2 ++ (l3)))
abbrev R : PySem.W.OpenRow := PySem.W.OpenLaw.row PySem.Challenge.rw_weandthey_k00_errors_made_by_hand
def ob (s : PySem.W.SharedT) : He.Al × Bool := (He.obsE fa fn (He.frG (HandSHeadRun.getT s) asL), ex (He.frG (HandSHeadRun.getT s) asL))
theorem ob_eq (s : PySem.W.SharedT) : ob s = hk.obs s.abs := by
  have e : HandSHeadRun.getT s = s.abs.heap.get? := funext (HandSHeadRun.getT_eq s)
  unfold ob
  rw [e]
  rfl
theorem run (w : World) : HandSHeadRun.RunEq R (PySem.W.view R.prog [140]) hk ob 9500 loose w := by
  intro os
  kernel_rfl
end K00

set_option Elab.async false
set_option linter.all false
set_option maxRecDepth 100000
namespace DL
open PySem L2

/-- data without addresses: a tuple is its items; loc: a list of the store; scr: the script -/
inductive D where
  | non | bl (b : Bool) | int (i : Int) | str (x : Str) | tup (ds : List D) | loc (i : Nat) | scr (ns : List Int) | exc (x f : Str) (ds : List D)
/-- what stands in the store -/
inductive Ob where
  | lst (ds : List D) | dct (kvs : List (Key × D))
abbrev Sto := List Ob
abbrev Mp := List Addr
abbrev DEnv := List (Option D)

/-- the script: locked, or an object of the module -/
def ScrAt (K : PySem.W.Frag) (H : Hp) (a : Addr) (xs : List V) : Prop :=
  (∃ o, H a = some (.frz o (.lst xs))) ∨
  ∃ (o : Obj) (its : Array Value) (n : Nat), K.lookup a = some o ∧ o.cls = .type "list" ∧
    o.dict = none ∧ o.data = .seq its n ∧ its.size ≤ sizeLine ∧ Vals xs its.toList
theorem ScrAt.sqL {K : PySem.W.Frag} {H : Hp} {a : Addr} {xs : List V} (h : ScrAt K H a xs) : SqL K H a xs := by
  rcases h with ⟨o, h⟩ | h
  · exact .inl (.inr ⟨o, h⟩)
  · exact .inr h
/-- an error of the class named x that has no field, or the field f -/
def ExAt (K : PySem.W.Frag) (H : Hp) (a : Addr) (x f : Str) (vs : List V) : Prop :=
  ∃ C : Addr, PySem.W.nsIn K mainGlobals x = some (some (.ref C)) ∧ ((vs = [] ∧ H a = some (exo a C none)) ∨ ∃ (dx : Addr) (v : V), vs = [v] ∧ H a = some (exo a C (some dx)) ∧ H dx = some (exd dx [(f, v)]))
mutual
inductive Dv (K : PySem.W.Frag) (H : Hp) (m : Mp) : V → D → Prop
  | non : Dv K H m .non .non
  | bl (b : Bool) : Dv K H m (.bl b) (.bl b)
  | int (i : Int) : Dv K H m (.int i) (.int i)
  | str (x : Str) : Dv K H m (.str x) (.str x)
  | tup {a : Addr} {vs : List V} {ds : List D} : SqT K H a vs → DvA K H m vs ds → Dv K H m (.ref a) (.tup ds)
  | loc {i : Nat} {a : Addr} : m[i]? = some a → Dv K H m (.ref a) (.loc i)
  | scr {a : Addr} {ns : List Int} : ScrAt K H a (ns.map V.int) → Dv K H m (.ref a) (.scr ns)
  | exc {a : Addr} {x f : Str} {vs : List V} {ds : List D} : ExAt K H a x f vs → DvA K H m vs ds → Dv K H m (.ref a) (.exc x f ds)
inductive DvA (K : PySem.W.Frag) (H : Hp) (m : Mp) : List V → List D → Prop
  | nil : DvA K H m [] []
  | cons {v : V} {vs : List V} {d : D} {ds : List D} : Dv K H m v d → DvA K H m vs ds → DvA K H m (v :: vs) (d :: ds)
end

/-- what may not change: tuples and locked things stay -/
structure Kp (H H' : Hp) : Prop where
  tup : ∀ a xs, H a = some (.tup xs) → H' a = some (.tup xs)
  frz : ∀ a o u, H a = some (.frz o u) → H' a = some (.frz o u)
  ext : ∀ a φ, H a = some (.ext φ) → H' a = some (.ext φ)
theorem Kp.refl (H : Hp) : Kp H H := ⟨fun _ _ h => h, fun _ _ _ h => h, fun _ _ h => h⟩
theorem Kp.trans {H H1 H2 : Hp} (a : Kp H H1) (b : Kp H1 H2) : Kp H H2 := ⟨fun c xs h => b.tup _ _ (a.tup _ _ h), fun c o u h => b.frz _ _ _ (a.frz _ _ _ h), fun c o h => b.ext _ _ (a.ext _ _ h)⟩
theorem Kp.new {H : Hp} {p : Addr} {o : HO} (h : H p = none) : Kp H (upd H p o) :=
  ⟨fun a xs e => by rw [upd_ne (ne_of_none e h)]; exact e, fun a x u e => by rw [upd_ne (ne_of_none e h)]; exact e, fun a x e => by rw [upd_ne (ne_of_none e h)]; exact e⟩
theorem Kp.put {H : Hp} {p : Addr} {o : HO} {xs : List V} (h : H p = some (.lst xs)) : Kp H (upd H p o) :=
  ⟨fun a ys e => by rw [upd_ne (ne_of e h (fun z => HO.noConfusion z))]; exact e, fun a x u e => by rw [upd_ne (ne_of e h (fun z => HO.noConfusion z))]; exact e, fun a x e => by rw [upd_ne (ne_of e h (fun z => HO.noConfusion z))]; exact e⟩
theorem Kp.putK {H : Hp} {p : Addr} {o : HO} {xs : List (Key × V)} (h : H p = some (.dK xs)) : Kp H (upd H p o) :=
  ⟨fun a ys e => by rw [upd_ne (ne_of e h (fun z => HO.noConfusion z))]; exact e, fun a x u e => by rw [upd_ne (ne_of e h (fun z => HO.noConfusion z))]; exact e, fun a x e => by rw [upd_ne (ne_of e h (fun z => HO.noConfusion z))]; exact e⟩
theorem Kp.sqT {K : PySem.W.Frag} {H H' : Hp} {a : Addr} {vs : List V} (k : Kp H H') (h : SqT K H a vs) : SqT K H' a vs := by
  rcases h with (h | ⟨o, h⟩) | h
  · exact .inl (.inl (k.tup _ _ h))
  · exact .inl (.inr ⟨o, k.frz _ _ _ h⟩)
  · exact .inr h
/-- the map grows at its end alone -/
def Gr (m m' : Mp) : Prop := ∃ z, m' = m ++ z
theorem Gr.refl (m : Mp) : Gr m m := ⟨[], (List.append_nil m).symm⟩
theorem Gr.trans {m m1 m2 : Mp} (a : Gr m m1) (b : Gr m1 m2) : Gr m m2 := by
  obtain ⟨x, rfl⟩ := a
  obtain ⟨y, rfl⟩ := b
  exact ⟨x ++ y, List.append_assoc ..⟩
theorem Gr.at {m m' : Mp} {i : Nat} {a : Addr} (g : Gr m m') (h : m[i]? = some a) : m'[i]? = some a := by
  obtain ⟨z, rfl⟩ := g
  obtain ⟨hi, _⟩ := List.getElem?_eq_some_iff.mp h
  rw [List.getElem?_append_left hi]
  exact h
section
variable {K : PySem.W.Frag} {H H' : Hp} {m m' : Mp}
mutual
theorem Dv.mono (k : Kp H H') (g : Gr m m') : ∀ (d : D) (v : V), Dv K H m v d → Dv K H' m' v d
  | .non, _, h => by cases h; exact .non
  | .bl b, _, h => by cases h; exact .bl b
  | .int i, _, h => by cases h; exact .int i
  | .str x, _, h => by cases h; exact .str x
  | .tup ds, _, h => by
    cases h with
    | tup s q => exact .tup (k.sqT s) (DvA.mono k g ds _ q)
  | .loc i, _, h => by
    cases h with
    | loc e => exact .loc (g.at e)
  | .scr ns, _, h => by
    cases h with
    | scr e =>
      rcases e with ⟨o, e⟩ | e
      · exact .scr (.inl ⟨o, k.frz _ _ _ e⟩)
      · exact .scr (.inr e)
  | .exc x f ds, _, h => by
    cases h with
    | exc e q =>
      refine .exc ?_ (DvA.mono k g ds _ q)
      obtain ⟨C, hc, ⟨hv, e⟩ | ⟨dx, v, hv, e1, e2⟩⟩ := e
      · exact ⟨C, hc, .inl ⟨hv, k.ext _ _ e⟩⟩
      · exact ⟨C, hc, .inr ⟨dx, v, hv, k.ext _ _ e1, k.ext _ _ e2⟩⟩
theorem DvA.mono (k : Kp H H') (g : Gr m m') : ∀ (ds : List D) (vs : List V), DvA K H m vs ds → DvA K H' m' vs ds
  | [], _, h => by cases h; exact .nil
  | d :: ds, _, h => by
    cases h with
    | cons h1 h2 => exact .cons (Dv.mono k g d _ h1) (DvA.mono k g ds _ h2)
end
theorem DvA.length : ∀ {vs : List V} {ds : List D}, DvA K H m vs ds → vs.length = ds.length
  | _, _, .nil => rfl
  | _, _, .cons _ t => congrArg (· + 1) (DvA.length t)
theorem DvA.get : ∀ {vs : List V} {ds : List D} {i : Nat} {d : D}, DvA K H m vs ds → ds[i]? = some d → ∃ v, vs[i]? = some v ∧ Dv K H m v d
  | _, _, _, _, .nil, e => by simp at e
  | _, _, 0, _, .cons r _, e => by simp at e; subst e; exact ⟨_, rfl, r⟩
  | _, _, i + 1, d, .cons _ t, e => by
    obtain ⟨v, h1, h2⟩ := DvA.get (i := i) (d := d) t (by simpa using e)
    exact ⟨v, by simpa using h1, h2⟩
theorem DvA.getV : ∀ {vs : List V} {ds : List D} {i : Nat} {v : V}, DvA K H m vs ds → vs[i]? = some v → ∃ d, ds[i]? = some d ∧ Dv K H m v d
  | _, _, _, _, .nil, e => by simp at e
  | _, _, 0, _, .cons r _, e => by simp at e; subst e; exact ⟨_, rfl, r⟩
  | _, _, i + 1, d, .cons _ t, e => by
    obtain ⟨v, h1, h2⟩ := DvA.getV (i := i) t (by simpa using e)
    exact ⟨v, by simpa using h1, h2⟩
theorem DvA.append : ∀ {vs us : List V} {ds es : List D}, DvA K H m vs ds → DvA K H m us es → DvA K H m (vs ++ us) (ds ++ es)
  | _, _, _, _, .nil, s => s
  | _, _, _, _, .cons r t, s => .cons r (DvA.append t s)
theorem DvA.take : ∀ {vs : List V} {ds : List D} (n : Nat), DvA K H m vs ds → DvA K H m (vs.take n) (ds.take n)
  | _, _, 0, _ => .nil
  | _, _, _ + 1, .nil => .nil
  | _, _, n + 1, .cons r t => .cons r (DvA.take n t)
theorem DvA.drop : ∀ {vs : List V} {ds : List D} (n : Nat), DvA K H m vs ds → DvA K H m (vs.drop n) (ds.drop n)
  | _, _, 0, r => r
  | _, _, _ + 1, .nil => .nil
  | _, _, n + 1, .cons _ t => DvA.drop n t
theorem DvA.set {v : V} {d : D} (r : Dv K H m v d) : ∀ {vs : List V} {ds : List D} (i : Nat), DvA K H m vs ds → DvA K H m (vs.set i v) (ds.set i d)
  | _, _, _, .nil => .nil
  | _, _, 0, .cons _ t => .cons r t
  | _, _, i + 1, .cons q t => .cons q (DvA.set r i t)
theorem DvA.reverse : ∀ {vs : List V} {ds : List D}, DvA K H m vs ds → DvA K H m vs.reverse ds.reverse
  | _, _, .nil => .nil
  | _, _, .cons r t => by
    rw [List.reverse_cons, List.reverse_cons]
    exact DvA.append (DvA.reverse t) (.cons r .nil)
theorem DvA.dropLast : ∀ {vs : List V} {ds : List D}, DvA K H m vs ds → DvA K H m vs.dropLast ds.dropLast
  | _, _, .nil => .nil
  | _, _, .cons _ .nil => .nil
  | _, _, .cons r (.cons q t) => .cons r (DvA.dropLast (.cons q t))
theorem DvA.rep {vs : List V} {ds : List D} (h : DvA K H m vs ds) : ∀ k : Nat, DvA K H m (List.replicate k vs).flatten (List.replicate k ds).flatten
  | 0 => .nil
  | k + 1 => by
    rw [List.replicate_succ, List.replicate_succ, List.flatten_cons, List.flatten_cons]
    exact DvA.append h (DvA.rep h k)
theorem DvA.ints : ∀ (ns : List Int), DvA K H m (ns.map V.int) (ns.map D.int)
  | [] => .nil
  | n :: r => .cons (.int n) (DvA.ints r)
theorem DvA.of_ints : ∀ {vs : List V} {ns : List Int}, DvA K H m vs (ns.map D.int) → vs = ns.map V.int
  | _, [], h => by cases h; rfl
  | _, n :: r, h => by
    cases h with
    | cons h1 h2 => cases h1; rw [DvA.of_ints h2]; rfl
theorem DvA.of_bls : ∀ {vs : List V} {ns : List Bool}, DvA K H m vs (ns.map D.bl) → vs = ns.map V.bl
  | _, [], h => by cases h; rfl
  | _, n :: r, h => by
    cases h with
    | cons h1 h2 => cases h1; rw [DvA.of_bls h2]; rfl
theorem DvA.of_strs : ∀ {vs : List V} {ns : List Str}, DvA K H m vs (ns.map D.str) → vs = ns.map V.str
  | _, [], h => by cases h; rfl
  | _, n :: r, h => by
    cases h with
    | cons h1 h2 => cases h1; rw [DvA.of_strs h2]; rfl
end

def ObR (K : PySem.W.Frag) (H : Hp) (m : Mp) (a : Addr) : Ob → Prop
  | .lst ds => ∃ vs, H a = some (.lst vs) ∧ DvA K H m vs ds
  | .dct kvs => ∃ kws : List (Key × V), H a = some (.dK kws) ∧ kws.map (·.1) = kvs.map (·.1) ∧ DvA K H m (kws.map (·.2)) (kvs.map (·.2))
theorem ObR.some {K : PySem.W.Frag} {H : Hp} {m : Mp} {a : Addr} {o : Ob} (h : ObR K H m a o) : H a ≠ none := by
  cases o with
  | lst ds => obtain ⟨vs, e, _⟩ := h; rw [e]; exact fun z => nomatch z
  | dct kvs => obtain ⟨vs, e, _⟩ := h; rw [e]; exact fun z => nomatch z
theorem ObR.mono {K : PySem.W.Frag} {H H' : Hp} {m m' : Mp} {a : Addr} {o : Ob} (k : Kp H H') (g : Gr m m') (e : H' a = H a) (h : ObR K H m a o) : ObR K H' m' a o := by
  cases o with
  | lst ds => obtain ⟨vs, q, r⟩ := h; exact ⟨vs, e.trans q, DvA.mono k g _ _ r⟩
  | dct kvs => obtain ⟨vs, q, n, r⟩ := h; exact ⟨vs, e.trans q, n, DvA.mono k g _ _ r⟩
/-- the store is held by the heap, by the map -/
structure Rel (K : PySem.W.Frag) (H : Hp) (m : Mp) (S : Sto) : Prop where
  len : m.length = S.length
  nd : m.Nodup
  ob : ∀ (i : Nat) (a : Addr) (o : Ob), m[i]? = some a → S[i]? = some o → ObR K H m a o
section
variable {K : PySem.W.Frag} {H : Hp} {m : Mp} {S : Sto}
theorem Rel.out (R : Rel K H m S) {p : Addr} (h : H p = none) : p ∉ m := fun hp => by
  obtain ⟨i, hi⟩ := List.getElem?_of_mem hp
  obtain ⟨hl, _⟩ := List.getElem?_eq_some_iff.mp hi
  have hl' : i < S.length := R.len ▸ hl
  have hs : S[i]? = some S[i] := List.getElem?_eq_getElem hl'
  exact (R.ob i p _ hi hs).some h
theorem Rel.ne (R : Rel K H m S) {p a : Addr} {i : Nat} (h : H p = none) (e : m[i]? = some a) : a ≠ p := fun z => R.out h (z ▸ List.mem_of_getElem? e)
/-- a new object that the store does not know -/
theorem Rel.new (R : Rel K H m S) {p : Addr} {o : HO} (h : H p = none) : Rel K (upd H p o) m S :=
  ⟨R.len, R.nd, fun i a ob e s => (R.ob i a ob e s).mono (.new h) (.refl m) (upd_ne (R.ne h e))⟩
/-- a new list -/
theorem Rel.push (R : Rel K H m S) {p : Addr} {vs : List V} {ds : List D} (h : H p = none) (r : DvA K H m vs ds) : Rel K (upd H p (.lst vs)) (m ++ [p]) (S ++ [.lst ds]) := by
  have k : Kp H (upd H p (.lst vs)) := .new h
  have g : Gr m (m ++ [p]) := ⟨[p], rfl⟩
  refine ⟨by rw [List.length_append, List.length_append, R.len]; rfl, ?_, fun i a o e s => ?_⟩
  · rw [List.nodup_append]
    exact ⟨R.nd, List.nodup_cons.mpr ⟨List.not_mem_nil, List.nodup_nil⟩, fun a ha b hb z => R.out h (by rw [List.mem_singleton.mp hb] at z; exact z ▸ ha)⟩
  · by_cases hi : i < m.length
    · rw [List.getElem?_append_left hi] at e
      rw [List.getElem?_append_left (R.len ▸ hi)] at s
      exact (R.ob i a o e s).mono k g (upd_ne (R.ne h e))
    · have hl : i < (m ++ [p]).length := (List.getElem?_eq_some_iff.mp e).1
      have hi' : i = m.length := by rw [List.length_append, List.length_singleton] at hl; omega
      subst hi'
      rw [List.getElem?_append_right (Nat.le_refl _), Nat.sub_self] at e
      rw [R.len, List.getElem?_append_right (Nat.le_refl _), Nat.sub_self] at s
      cases e
      cases s
      exact ⟨vs, upd_same, DvA.mono k g _ _ r⟩
theorem Rel.at (R : Rel K H m S) {i : Nat} {a : Addr} {o : Ob} (e : m[i]? = some a) (s : S[i]? = some o) : ObR K H m a o := R.ob i a o e s
/-- a list written -/
theorem Rel.put (R : Rel K H m S) {i : Nat} {a : Addr} {xs vs : List V} {ds : List D} (e : m[i]? = some a) (h : H a = some (.lst xs)) (r : DvA K H m vs ds) : Rel K (upd H a (.lst vs)) m (S.set i (.lst ds)) := by
  have k : Kp H (upd H a (.lst vs)) := .put h
  refine ⟨by rw [List.length_set]; exact R.len, R.nd, fun j b o e' s => ?_⟩
  by_cases hj : j = i
  · subst hj
    rw [e] at e'
    cases e'
    have hl : j < S.length := R.len ▸ (List.getElem?_eq_some_iff.mp e).1
    rw [List.getElem?_set_self hl] at s
    cases s
    exact ⟨vs, upd_same, DvA.mono k (.refl m) _ _ r⟩
  · rw [List.getElem?_set_ne (fun z => hj z.symm)] at s
    have hne : b ≠ a := fun z => hj (by
      subst z
      exact nodup_at R.nd e' e)
    exact (R.ob j b o e' s).mono k (.refl m) (upd_ne hne)
where
  nodup_at {l : List Addr} (nd : l.Nodup) {i j : Nat} {x : Addr} (a : l[i]? = some x) (b : l[j]? = some x) : i = j := by
    obtain ⟨h1, e1⟩ := List.getElem?_eq_some_iff.mp a
    obtain ⟨h2, e2⟩ := List.getElem?_eq_some_iff.mp b
    exact (List.getElem_inj nd).mp (e1.trans e2.symm)
end

/-- slots -/
structure EnvR (K : PySem.W.Frag) (H : Hp) (m : Mp) (σ : L2.St) (δ : DEnv) : Prop where
  len : σ.length = δ.length
  at_ : ∀ (i : Nat) (d : D), δ[i]? = some (some d) → ∃ v, σ[i]? = some (some v) ∧ Dv K H m v d
section
variable {K : PySem.W.Frag} {H H' : Hp} {m m' : Mp} {σ : L2.St} {δ : DEnv}
theorem EnvR.mono (k : Kp H H') (g : Gr m m') (e : EnvR K H m σ δ) : EnvR K H' m' σ δ :=
  ⟨e.len, fun i d h => let ⟨v, a, b⟩ := e.at_ i d h; ⟨v, a, Dv.mono k g _ _ b⟩⟩
theorem EnvR.set (e : EnvR K H m σ δ) (i : Nat) {v : V} {d : D} (r : Dv K H m v d) : EnvR K H m (σ.set i (some v)) (δ.set i (some d)) := by
  refine ⟨by rw [List.length_set, List.length_set]; exact e.len, fun j d' h => ?_⟩
  by_cases hj : j = i
  · subst hj
    have hl : j < δ.length := by
      have := (List.getElem?_eq_some_iff.mp h).1
      rwa [List.length_set] at this
    rw [List.getElem?_set_self hl] at h
    cases h
    exact ⟨v, by rw [List.getElem?_set_self (e.len ▸ hl)], r⟩
  · rw [List.getElem?_set_ne (fun z => hj z.symm)] at h
    obtain ⟨w, a, b⟩ := e.at_ j d' h
    exact ⟨w, by rw [List.getElem?_set_ne (fun z => hj z.symm)]; exact a, b⟩
end
end DL

set_option Elab.async false
set_option linter.all false
set_option maxRecDepth 100000
namespace DL
open PySem L2 PyProof.Rows

/-- a def's promise where no repr is under way -/
structure FnG (P : Program) (w : World) (K : PySem.W.Frag) (mg : Str → Option Value) (base : Heap)
    (CX : CXT) (k : Nat) (f : Addr) (fd : FuncData) (ps : List Str) (sp : Sp) : Prop where
  len : ∀ vs H Q E, sp vs H Q E → vs.length = ps.length
  run : ∀ (A : Around) (outer : List Env) (s : Shared) (H : Hp) (args : Args) (us : List Value) (vs : List V) (Q : VK) (E : XK),
    A.guards = some [] → Room k A → Env0 P w K mg base A outer s H → BindsTo s fd args (ps.zip us) →
    Vals vs us → sp vs H Q E → codeAny (model P w) A (.call (.ref f) args) (CR CX outer P w H s Q E) s
section
variable {P : Program} {w : World} {K : PySem.W.Frag} {mg : Str → Option Value} {base : Heap}
variable {CX : CXT} {j k : Nat} {f : Addr} {fd : FuncData} {ps : List Str} {sp sp' : Sp}
theorem FnG.mono (F : FnG P w K mg base CX j f fd ps sp) (h : j ≤ k) : FnG P w K mg base CX k f fd ps sp :=
  ⟨F.len, fun A o s H ar us vs Q E hg hr => F.run A o s H ar us vs Q E hg (hr.mono h)⟩
theorem FnG.imp (F : FnG P w K mg base CX k f fd ps sp) (h : ∀ vs H Q E, sp' vs H Q E → sp vs H Q E) :
    FnG P w K mg base CX k f fd ps sp' :=
  ⟨fun vs H Q E q => F.len vs H Q E (h _ _ _ _ q),
   fun A o s H ar us vs Q E hg hr he hb hv hs => F.run A o s H ar us vs Q E hg hr he hb hv (h _ _ _ _ hs)⟩
theorem guards_deeper {A : Around} (env : Env) (h : A.guards = some []) : (A.deeper env).guards = some [] := h

/-- from a body to the promise -/
theorem fnG_of {nm qual : Str} {prm : Arguments} {body : List Stmt} {sc : Scope} {dV kV doc pm cdv ct oc : Value}
    {an od : Option Addr} {osl : Array (Option Value)} {N : List Str}
    (lk : K.lookup f = some ⟨oc, od, .func (PySem.W.fnOf nm qual prm body sc dV kV doc pm an cdv ct), osl⟩)
    (hcd : PySem.W.codeIn K cdv qual = true) (S : FnScope N ps sc) (len : ∀ vs H Q E, sp vs H Q E → vs.length = ps.length)
    (hb0 : ∀ (A : Around) (outer : List Env) (s : Shared) (H : Hp) (vs : List V) (Q : VK) (E : XK),
      (A.deeper (envOfC qual sc s.heap.objs.size f cdv)).guards = some [] → Room k (A.deeper (envOfC qual sc s.heap.objs.size f cdv)) → sp vs H Q E →
      ∃ t, PSs (cxOf CX P w K mg base N qual sc f cdv A outer s H E) body t ∧
        t { nx := fun _ H' => Q .non H', rt := Q } (start N vs) H) :
    FnG P w K mg base CX (k + 1) f (PySem.W.fnOf nm qual prm body sc dV kV doc pm an cdv ct) ps sp := by
  refine ⟨len, fun A outer s H ar us vs Q E hgd hr e0 hb r hsp => ?_⟩
  have hlen := len _ _ _ _ hsp
  have KX : K.In s.heap := e0.mod.kin.keeps (fun b o e => (e0.bs b o e).1)
  have nol : s.heap.NoLimit := e0.mod.nolimit.keeps (fun b o e => (e0.bs b o e).1)
  have kinds : ∀ y ∈ ps.zip us, sc.names.lookup y.1 = some .local ∨
      (sc.names.lookup y.1 = some .cell ∧ ((cellsFrom (s.heap.objs.size + 1) sc.names []).lookup y.1).isSome = true) := by
    rintro ⟨n, v⟩ hy
    rcases S.par n (List.of_mem_zip hy).1 with q | q
    · exact .inl q
    · exact .inr ⟨q, PySem.W.cellsFrom_some _ _ _ (.inl q)⟩
  refine codeAny_call_function hr.depth (KX _ _ lk) rfl S.co S.gen rfl
    (PySem.W.codeRec_of KX hcd) (hb _ _ _ _ (wpAny_newFunctionEnv_cells S.kind kinds fun env he s1 x => ?_))
  subst he
  refine ⟨nol.keeps x.toInCall.keep, codeAny_func ?_⟩
  obtain ⟨t, ht, hq⟩ := hb0 A outer s H vs Q E (guards_deeper _ hgd) (hr.deeper _) hsp
  have J0 : Inv (cxOf CX P w K mg base N qual sc f cdv A outer s H E) [] (start N vs) H s1 :=
    inv_start S hr.hd e0 hlen r x
  refine wpAny_mono (ht.run [] s1 (start N vs) H _ J0 hq) ?_ (fun e s' hs => hs)
  intro fl s' hs
  match fl, hs with
  | .ret u, hs =>
    obtain ⟨v, σ', H', J, rv, q⟩ := hs
    exact ⟨v, H', J.os, J.bare, J.base, J.hok, rv, q⟩
  | .next, hs =>
    obtain ⟨σ', H', J, q⟩ := hs
    exact ⟨V.non, H', J.os, J.bare, J.base, J.hok, rfl, q⟩
  | .brk, hs =>
    obtain ⟨_, _, _, q⟩ := hs
    exact q.elim
  | .cont, hs =>
    obtain ⟨_, _, _, q⟩ := hs
    exact q.elim
/-- the context of a def's body -/
abbrev cxD (P : Program) (w : World) (K : PySem.W.Frag) (mg : Str → Option Value) (base : Heap) (N : List Str) (qual : Str) (st : Stmt) (f : Addr)
    (cdv : Value) (A : Around) (outer : List Env) (s : Shared) (H : Hp) (E : XK) : Cx :=
  (cxOf CX0 P w K mg base N qual (defScope st) f cdv A outer s H E).nox
/-- a def of the text -/
theorem funG {x qual : Str} {st : Stmt} {N : List Str} (F : Fun K x qual st f fd) (S : FnScope N ps (defScope st))
    (len : ∀ vs H Q E, sp vs H Q E → vs.length = ps.length)
    (hb0 : ∀ (cdv : Value) (A : Around) (outer : List Env) (s : Shared) (H : Hp) (E : XK),
      (cxD P w K mg base N qual st f cdv A outer s H E).A.guards = some [] → Room k (cxD P w K mg base N qual st f cdv A outer s H E).A →
      ∃ t, PSs (cxD P w K mg base N qual st f cdv A outer s H E) (defBody st) t ∧
        ∀ (H : Hp) (vs : List V) (Q : VK) (E : XK), sp vs H Q E → t { nx := fun _ H' => Q .non H', rt := Q } (start N vs) H) :
    FnG P w K mg base CX0 (k + 1) f fd ps sp := by
  obtain ⟨oc, od, kV, doc, pm, an, cdv, ct, osl, rfl, lk, hcd⟩ := F.ex
  refine fnG_of lk hcd S len (fun A outer s H vs Q E hg hr hsp => ?_)
  obtain ⟨t, h, q⟩ := hb0 cdv A outer s H E hg hr
  exact ⟨t, h.nox, q H vs Q E hsp⟩
end
section
variable {X : Cx} {CX : CXT} {k : Nat} {f : Addr} {fd : FuncData} {ps : List Str} {sp : Sp}
variable {dvs : List V} {ds : List Value} {E : XK} {x : Str} {p pos : Pos} {e : Expr} {es : List Expr} {t : TA}
theorem run_fnG {pins : List (Addr × Obj)} {σ : L2.St} {H : Hp} {s : Shared} {Q : VK} {us : List Value} {vs : List V}
    (F : FnG X.prog X.w X.K X.mg X.base CX k f fd ps sp) (hgd : X.A.guards = some []) (hr : Room k X.A)
    (hb : Binds X.K fd ps ds) (hd : Vals dvs ds) (hx : Passes CX X E) (I : Inv X pins σ H s) (r : Vals vs us)
    (h : sp (vs ++ dvs) H Q E) : wpAny (model X.prog X.w) X.A (call (.ref f) us) (EP X pins σ Q) X.xe s := by
  have r2 := Vals.append r hd
  have hl : (us ++ ds).length = ps.length := r2.length.symm.trans (F.len _ _ _ _ h)
  have go := F.run X.A X.stack s H ⟨us, []⟩ (us ++ ds) (vs ++ dvs) Q E hgd hr I.env0 (hb s us I.kIn hl) r2 h
  refine wpAny_call (codeAny_mono go ?_)
  intro res s' hq
  match res, hq with
  | .error er, hq => exact hx pins σ H s er s' I hq
  | .ok (.ret u), hq => exact I.after hq
  | .ok .next, hq => exact False.elim hq
  | .ok .brk, hq => exact False.elim hq
  | .ok .cont, hq => exact False.elim hq
theorem pe_callG (F : FnG X.prog X.w X.K X.mg X.base CX k f fd ps sp) (hgd : X.A.guards = some []) (hr : Room k X.A) (hg : Gl X x)
    (hm : X.mg x = some (.ref f)) (hk : PySem.W.keepIn X.K (.ref f) = true) (hb : Binds X.K fd ps ds) (hd : Vals dvs ds) (hx : Passes CX X E)
    (ha : PA X (e :: es) t) (hdb : (x == ("__debug__" : Str)) = false := by decide)
    (he : starEach (e :: es) X.env = (false, eval e X.env) :: starEach es X.env := by rfl)
    (hpl : (backTo pos (starEach es X.env)).any (·.1) = false := by rfl) :
    PE X (.Call (.Name x p) (e :: es) [] pos) (tCall sp dvs E t) := by
  constructor
  intro pins s σ H Q I h
  refine wpAny_Call_Name_kw (ld_glob I hg hm (PySem.W.callWith_K (h₀ := X.base) I.ok.mod.kin hk
    (thn (ha.run pos pins s σ H _ I h) ?_) he hpl) hdb)
  rintro us s1 ⟨vs, H1, I1, r, q⟩
  exact ⟨I1.kIn, run_fnG F hgd hr hb hd hx I1 r q⟩
end

/-- the law's own call, from an abstract heap that knows the script at most -/
theorem lawG0 {P : Program} {w : World} {K : PySem.W.Frag} {mg mb : Str → Option Value} {CX : CXT} {k : Nat} {fa a : Addr}
    {fd : FuncData} {x : Str} {sp : Sp} {s₁ : Shared} {vs : List Value} {H : Hp}
    (KX : K.In s₁.heap) (hns : s₁.heap.Ns mainGlobals mg) (hb : s₁.heap.Ns builtinsNs mb)
    (hbb : ∀ x : Str, x ≠ "__name__" → mb x = bootBuiltins x) (hlim : s₁.heap.NoLimit) (hg : s₁.gens = #[])
    (ha : s₁.heap.get? a = some { cls := .type "list", data := .seq vs.toArray }) (hr : Room k callerA)
    (hok : HOk P w H s₁.heap) (Hn : ∀ b, H b ≠ none → b = a ∧ K.lookup a = none ∧ ∃ o u, H a = some (.frz o u))
    (F : ∀ base : Heap, K.In base → base.Ns mainGlobals mg → FnG P w K mg base CX k fa fd [x] sp)
    (hbind : ∀ (s : Shared) (u : Value), BindsTo s fd ⟨[u], []⟩ [(x, u)])
    (hsp : sp [.ref a] H (fun v _ => v = .bl true) fun _ _ _ => False)
    (hCX : ∀ H e s', CX [] H s₁ (fun _ _ _ => False) e s' → False) :
    codeAny (model P w) callerA (.call (.ref fa) ⟨[.ref a], []⟩)
      (fun r s' => r = .ok (.ret (.bool true)) ∧ OldK s₁.heap s'.heap ∧ s'.os = s₁.os ∧ AllBare s'.gens) s₁ := by
  have no : ∀ b, (b = a → K.lookup a = none → False) → H b = none := fun b z => by
    cases q : H b with
    | none => rfl
    | some u =>
      obtain ⟨e, e2, _⟩ := Hn b (by rw [q]; exact fun z => nomatch z)
      exact (z e e2).elim
  have nsK : ∀ {b : Addr} {m : Str → Option Value}, s₁.heap.Ns b m → (hidT s₁.heap H).Ns b m := by
    rintro b m ⟨o, es, ep, e, d, r⟩
    refine ⟨o, es, ep, hidT_get e (no b (fun z _ => ?_)), d, r⟩
    subst z
    rw [ha] at e
    cases e
    exact nomatch (show Data.seq vs.toArray _ = Data.dict es ep from d)
  have hKb : K.In (hidT s₁.heap H) := fun b o e => hidT_get (KX b o e) (no b (fun z z2 => by rw [z, z2] at e; cases e))
  have hM : Mod K mg (hidT s₁.heap H) := ⟨hKb, nsK hns, ⟨mb, nsK hb, hbb⟩, let ⟨mc, h1, h2⟩ := hlim; ⟨mc, nsK h1, h2⟩⟩
  have e0 : Env0 P w K mg (hidT s₁.heap H) callerA [] s₁ H :=
    ⟨rfl, hM, fun b o e => of_hidT e, Nat.le_of_eq (hidT_size _ _), trivial, fun b hb => (List.not_mem_nil hb).elim, hok, .of_eq hg⟩
  have go := (F _ hKb (nsK hns)).run callerA [] s₁ H ⟨[.ref a], []⟩ [.ref a] [.ref a] _ _ rfl hr e0 (hbind s₁ (.ref a)) (.cons rfl .nil) hsp
  refine codeAny_mono go ?_
  intro res s' h
  match res, h with
  | .error e, h => exact (hCX H e s' h).elim
  | .ok .next, h => exact False.elim h
  | .ok .brk, h => exact False.elim h
  | .ok .cont, h => exact False.elim h
  | .ok (.ret u), h =>
    obtain ⟨v, H', os, bare, un, hok', r', q⟩ := h
    obtain rfl : v = .bl true := q
    obtain rfl : u = Value.bool true := r'
    refine ⟨rfl, OldK.of_keep (fun b o e => ?_), os, bare⟩
    by_cases hba : H b = none
    · exact un.keep b o e hba (fun z => List.not_mem_nil z) List.not_mem_nil
    · obtain ⟨rfl, _, ob, u, Ha⟩ := Hn b hba
      obtain ⟨e1, _⟩ := hok b _ Ha
      obtain ⟨e2, _⟩ := hok' b _ (un.frzs b ob _ Ha)
      rw [e] at e1
      cases e1
      exact e2
theorem lawG {P : Program} {w : World} {K : PySem.W.Frag} {mg mb : Str → Option Value} {CX : CXT} {k : Nat} {fa a : Addr}
    {fd : FuncData} {x : Str} {sp : Sp} {s₁ : Shared} {vs : List Value} {ns : List Int}
    (KX : K.In s₁.heap) (hns : s₁.heap.Ns mainGlobals mg) (hb : s₁.heap.Ns builtinsNs mb)
    (hbb : ∀ x : Str, x ≠ "__name__" → mb x = bootBuiltins x) (hlim : s₁.heap.NoLimit) (hg : s₁.gens = #[])
    (ha : s₁.heap.get? a = some { cls := .type "list", data := .seq vs.toArray }) (hi : IntsAre vs ns)
    (hl : ns.length ≤ sizeLine) (hr : Room k callerA)
    (F : ∀ base : Heap, K.In base → base.Ns mainGlobals mg → FnG P w K mg base CX k fa fd [x] sp)
    (hbind : ∀ (s : Shared) (u : Value), BindsTo s fd ⟨[u], []⟩ [(x, u)])
    (hsp : ∀ (H : Hp), ScrAt K H a (ns.map V.int) → sp [.ref a] H (fun v _ => v = .bl true) fun _ _ _ => False)
    (hCX : ∀ H e s', CX [] H s₁ (fun _ _ _ => False) e s' → False) :
    codeAny (model P w) callerA (.call (.ref fa) ⟨[.ref a], []⟩)
      (fun r s' => r = .ok (.ret (.bool true)) ∧ OldK s₁.heap s'.heap ∧ s'.os = s₁.os ∧ AllBare s'.gens) s₁ := by
  have rv := vals_ints hi
  cases hk : K.lookup a with
  | some o =>
    have e := KX a o hk
    rw [ha] at e
    cases e
    refine lawG0 (H := fun _ => none) KX hns hb hbb hlim hg ha hr (fun b u z => nomatch z) (fun b z => (z rfl).elim) F hbind (hsp _ (.inr ?_)) hCX
    exact ⟨_, vs.toArray, _, hk, rfl, rfl, rfl, by rw [List.size_toArray, hi.length]; exact hl, by simpa using rv⟩
  | none =>
    let ob : Obj := { cls := .type "list", data := .seq vs.toArray }
    let H : Hp := fun b => if b = a then some (.frz ob (.lst (ns.map V.int))) else none
    have Ha : H a = some (.frz ob (.lst (ns.map V.int))) := if_pos rfl
    have Hn : ∀ b, b ≠ a → H b = none := fun b hb => if_neg hb
    refine lawG0 (H := H) KX hns hb hbb hlim hg ha hr (fun b u z => ?_) (fun b z => ?_) F hbind (hsp _ (.inl ⟨_, Ha⟩)) hCX
    · by_cases e : b = a
      · subst e
        rw [Ha] at z
        cases z
        exact ⟨ha, by rw [List.length_map]; exact hl, vs, _, rv, ha⟩
      · rw [Hn b e] at z
        cases z
    · by_cases e : b = a
      · exact ⟨e, hk, _, _, Ha⟩
      · exact (z (Hn b e)).elim
/-- the goal that the head leaves -/
theorem walkG {l : PySem.W.OpenLaw} {n k : Nat} {q : Program} {loose : List Str} {XP : (Str → Option Value) → Heap → Prop} {YP : World → Heap → Prop}
    {d : DefRec} {K : Params → PySem.W.Frag} {CX : World → CXT} {sp : World → Sp} {x : Str}
    (hn : l.most = some n) (hn2 : n ≤ sizeLine) (hdf : d.params.defaults = []) (hr : Room k callerA)
    (hY : ∀ (w : World) (h : Heap), YP w h → (K w.params).In h)
    (F : ∀ (w : World) (mg : Str → Option Value) (fa : Addr) (h : Heap), (K w.params).In h → h.Ns mainGlobals mg → mg d.name = some (.ref fa) →
      ∃ fd : FuncData, (∀ (s : Shared) (u : Value), BindsTo s fd ⟨[u], []⟩ [(x, u)]) ∧
      ∀ base : Heap, (K w.params).In base → base.Ns mainGlobals mg → FnG l.prog w (K w.params) mg base (CX w) k fa fd [x] (sp w))
    (hsp : ∀ (w : World) (H : Hp) (a : Addr) (ns : List Int), ns.length ≤ n → ScrAt (K w.params) H a (ns.map V.int) →
      sp w [.ref a] H (fun v _ => v = .bl true) fun _ _ _ => False)
    (hCX : ∀ (w : World) (H : Hp) (s : Shared) (e : Value) (s' : Shared), CX w [] H s (fun _ _ _ => False) e s' → False) :
    PySem.W.WalkO q loose XP YP l.row.toRowW d [] (fun f vs => PySem.call f vs) := by
  refine Att.attach_call hn hdf ?_
  intro w s₀ s₁ mg mb fa o pm cd doc a vs ns G Y ho hd hcd hmg hobj hints hlen hg
  have KX := hY w _ Y
  obtain ⟨fd, hb, hF⟩ := F w mg fa _ KX G.T.g hmg
  exact lawG KX G.T.g G.T.b G.T.builtins G.T.nolimit hg hobj hints (Nat.le_trans hlen hn2) hr hF hb
    (fun H hS => hsp w H a ns hlen hS) (fun H e s' => hCX w H s₁ e s')
end DL

set_option Elab.async false
set_option linter.all false
set_option maxRecDepth 100000
set_option maxHeartbeats 1000000
namespace DL
open PySem L2 PyProof.Rows

abbrev DK := D → Sto → Prop
abbrev DE := DEnv → Sto → DK → Prop
abbrev DT := DEnv → Sto → (Bool → Sto → Prop) → Prop
abbrev DA := DEnv → Sto → (List D → Sto → Prop) → Prop
def Cont (K : PySem.W.Frag) (H : Hp) (m : Mp) (Q' : DK) (Q : VK) : Prop :=
  ∀ d S' v H' m', Q' d S' → Kp H H' → Gr m m' → Rel K H' m' S' → Dv K H' m' v d → Q v H'
def ContB (K : PySem.W.Frag) (H : Hp) (m : Mp) (Q' : Bool → Sto → Prop) (Q : Bool → Hp → Prop) : Prop :=
  ∀ b S' H' m', Q' b S' → Kp H H' → Gr m m' → Rel K H' m' S' → Q b H'
def ContA (K : PySem.W.Frag) (H : Hp) (m : Mp) (Q' : List D → Sto → Prop) (Q : List V → Hp → Prop) : Prop :=
  ∀ ds S' vs H' m', Q' ds S' → Kp H H' → Gr m m' → Rel K H' m' S' → DvA K H' m' vs ds → Q vs H'
def SimE (K : PySem.W.Frag) (te : TE) (t : DE) : Prop := ∀ (σ : L2.St) (H : Hp) (m : Mp) (S : Sto) (δ : DEnv) (Q : VK) (Q' : DK),
  Rel K H m S → EnvR K H m σ δ → t δ S Q' → Cont K H m Q' Q → te σ H Q
def SimT (K : PySem.W.Frag) (te : TT) (t : DT) : Prop := ∀ (σ : L2.St) (H : Hp) (m : Mp) (S : Sto) (δ : DEnv) (Q : Bool → Hp → Prop) (Q' : Bool → Sto → Prop),
  Rel K H m S → EnvR K H m σ δ → t δ S Q' → ContB K H m Q' Q → te σ H Q
def SimA (K : PySem.W.Frag) (te : TA) (t : DA) : Prop := ∀ (σ : L2.St) (H : Hp) (m : Mp) (S : Sto) (δ : DEnv) (Q : List V → Hp → Prop) (Q' : List D → Sto → Prop),
  Rel K H m S → EnvR K H m σ δ → t δ S Q' → ContA K H m Q' Q → te σ H Q
structure PD (X : Cx) (e : Expr) (te : TE) (t : DE) : Prop where
  pe : PE X e te
  sim : SimE X.K te t
structure PTD (X : Cx) (e : Expr) (te : TT) (t : DT) : Prop where
  pe : PT X e te
  sim : SimT X.K te t
structure PWD (X : Cx) (e : Expr) (te : TT) (t : DT) : Prop where
  pe : PW X e te
  sim : SimT X.K te t
structure PAD (X : Cx) (e : List Expr) (te : TA) (t : DA) : Prop where
  pe : PA X e te
  sim : SimA X.K te t
structure OpD (X : Cx) (f : Value → Value → Sem Value) (r : R2) (r' : D → D → Sto → DK → Prop) : Prop where
  op : OpR X f r
  sim : ∀ (H : Hp) (m : Mp) (S : Sto) (x y : D) (vx vy : V) (Q : VK) (Q' : DK), Rel X.K H m S → Dv X.K H m vx x → Dv X.K H m vy y → r' x y S Q' → Cont X.K H m Q' Q → r vx vy H Q
structure CallD (X : Cx) (f : Value) (r : List V → Hp → VK → Prop) (r' : List D → Sto → DK → Prop) : Prop where
  op : CallR X f r
  sim : ∀ (H : Hp) (m : Mp) (S : Sto) (xs : List D) (vs : List V) (Q : VK) (Q' : DK), Rel X.K H m S → DvA X.K H m vs xs → r' xs S Q' → Cont X.K H m Q' Q → r vs H Q

section
variable {K : PySem.W.Frag} {H H' : Hp} {m m' : Mp} {S : Sto} {Q' : DK} {Q : VK}
theorem Cont.mono (k : Kp H H') (g : Gr m m') (c : Cont K H m Q' Q) : Cont K H' m' Q' Q := fun d S' v H2 m2 q k2 g2 R r => c d S' v H2 m2 q (k.trans k2) (g.trans g2) R r
theorem ContB.mono {Q' : Bool → Sto → Prop} {Q : Bool → Hp → Prop} (k : Kp H H') (g : Gr m m') (c : ContB K H m Q' Q) : ContB K H' m' Q' Q := fun b S' H2 m2 q k2 g2 R => c b S' H2 m2 q (k.trans k2) (g.trans g2) R
theorem ContA.mono {Q' : List D → Sto → Prop} {Q : List V → Hp → Prop} (k : Kp H H') (g : Gr m m') (c : ContA K H m Q' Q) : ContA K H' m' Q' Q := fun d S' v H2 m2 q k2 g2 R r => c d S' v H2 m2 q (k.trans k2) (g.trans g2) R r
theorem Cont.same {v : V} {d : D} (c : Cont K H m Q' Q) (R : Rel K H m S) (q : Q' d S) (r : Dv K H m v d) : Q v H := c d S v H m q (.refl H) (.refl m) R r
theorem Cont.newL {vs : List V} {ds : List D} (c : Cont K H m Q' Q) (R : Rel K H m S) (r : DvA K H m vs ds) (q : Q' (.loc S.length) (S ++ [.lst ds])) : ∀ p, H p = none → Q (.ref p) (upd H p (.lst vs)) := fun p hp =>
  c (.loc S.length) _ _ _ (m ++ [p]) q (.new hp) ⟨[p], rfl⟩ (R.push hp r) (.loc (by rw [← R.len, List.getElem?_append_right (Nat.le_refl _), Nat.sub_self]; rfl))
theorem Cont.newT {vs : List V} {ds : List D} (c : Cont K H m Q' Q) (R : Rel K H m S) (r : DvA K H m vs ds) (q : Q' (.tup ds) S) : ∀ p, H p = none → Q (.ref p) (upd H p (.tup vs)) := fun p hp =>
  c (.tup ds) _ _ _ m q (.new hp) (.refl m) (R.new hp) (.tup (SqT.of upd_same) (DvA.mono (.new hp) (.refl m) _ _ r))
theorem Rel.lst (R : Rel K H m S) {i : Nat} {v : V} {ds : List D} (d : Dv K H m v (.loc i)) (s : S[i]? = some (.lst ds)) : ∃ a vs, v = .ref a ∧ m[i]? = some a ∧ H a = some (.lst vs) ∧ DvA K H m vs ds := by
  cases d with
  | loc e =>
    obtain ⟨vs, h, r⟩ := R.ob i _ _ e s
    exact ⟨_, vs, rfl, e, h, r⟩
theorem small5 {n : Nat} (h : n ≤ 100000) : n ≤ sizeLine := Nat.le_trans h (by decide)
theorem small5' {n : Nat} (h : n < 100000) : n < sizeLine := Nat.lt_of_lt_of_le h (by decide)
theorem DvA.atI {vs : List V} {ds : List D} {i : Int} {d : D} (r : DvA K H m vs ds) (h : atI ds i = some d) : ∃ v, L2.atI vs i = some v ∧ Dv K H m v d := by
  unfold L2.atI at h ⊢
  rw [r.length]
  cases e : ixN ds.length i with
  | none => rw [e] at h; cases h
  | some j =>
    rw [e] at h
    have h' : ds[j]? = some d := h
    obtain ⟨v, h1, h2⟩ := r.get h'
    exact ⟨v, h1, h2⟩
theorem DvA.cut {vs : List V} {ds : List D} (lo hi : Option Int) (r : DvA K H m vs ds) : DvA K H m (cutV vs lo hi) ((ds.drop (HT.sIx ds.length 0 lo)).take (HT.sIx ds.length ds.length hi - HT.sIx ds.length 0 lo)) := by
  unfold cutV
  rw [r.length]
  exact (r.drop _).take _
end

/-! ### names, constants -/
section
variable {X : Cx} {pos : Pos}
@[simp] def dVar (i : Nat) : DE := fun δ S Q => ∃ d, δ[i]? = some (some d) ∧ Q d S
@[simp] def dC (d : D) : DE := fun _ S Q => Q d S
theorem sim_var {K : PySem.W.Frag} {i : Nat} : SimE K (tVar i) (dVar i) := fun σ H m S δ Q Q' R e ⟨d, h, q⟩ c =>
  let ⟨v, h1, h2⟩ := e.at_ i d h
  ⟨v, h1, c.same R q h2⟩
theorem dv (i : Nat) {x : Str} {pos : Pos} (hN : X.N[i]? = some x := by rfl) (hv : Vis X.env.scope x := by first | exact Or.inl rfl | exact Or.inr (Or.inl rfl) | exact Or.inr (Or.inr rfl)) (hd : (x == ("__debug__" : Str)) = false := by decide)
    (hcd : (x == ("__classdict__" : Str)) = false := by decide) : PD X (.Name x pos) (tVar i) (dVar i) := ⟨pe_var hN hv hd hcd, sim_var⟩
theorem sim_c {K : PySem.W.Frag} {v : V} {d : D} (h : ∀ H m, Dv K H m v d) : SimE K (tC v) (dC d) := fun σ H m S δ Q Q' R e q c => c.same R q (h H m)
theorem d_int {i j} : PD X (.Constant (.int i) j pos) (tC (.int i)) (dC (.int i)) := ⟨pe_int, sim_c fun _ _ => .int i⟩
theorem d_bl {b j} : PD X (.Constant (.bool b) j pos) (tC (.bl b)) (dC (.bl b)) := ⟨pe_bl, sim_c fun _ _ => .bl b⟩
theorem d_non {j} : PD X (.Constant .none j pos) (tC .non) (dC .non) := ⟨pe_non, sim_c fun _ _ => .non⟩
theorem d_str {x j} : PD X (.Constant (.str x) j pos) (tC (.str x)) (dC (.str x)) := ⟨pe_str, sim_c fun _ _ => .str x⟩
/-- a constant of the module -/
structure GlD (K : PySem.W.Frag) (mg : Str → Option Value) (x : Str) (v : V) (d : D) : Prop where
  ex : ∃ u, mg x = some u ∧ RelV v u
  dv : ∀ H m, Dv K H m v d
theorem d_glob {x : Str} {v : V} {d : D} (hg : Gl X x) (g : GlD X.K X.mg x v d) (hd : (x == ("__debug__" : Str)) = false := by decide) : PD X (.Name x pos) (tC v) (dC d) :=
  let ⟨_, hm, r⟩ := g.ex
  ⟨pe_glob hg hm r hd, sim_c g.dv⟩
end

/-! ### argument lists, displays -/
section
variable {X : Cx} {pos : Pos} {e : Expr} {es : List Expr} {te : TE} {t : DE} {ta : TA} {u : DA}
@[simp] def dNil : DA := fun _ S Q => Q [] S
@[simp] def dCons (t : DE) (u : DA) : DA := fun δ S Q => t δ S fun d S1 => u δ S1 fun ds S2 => Q (d :: ds) S2
theorem da_nil : PAD X [] tNil dNil := ⟨pa_nil, fun σ H m S δ Q Q' R e q c => c [] S [] H m q (.refl H) (.refl m) R .nil⟩
theorem sim_cons {K : PySem.W.Frag} (h : SimE K te t) (hr : SimA K ta u) : SimA K (tCons te ta) (dCons t u) := fun σ H m S δ Q Q' R e q c =>
  h σ H m S δ _ _ R e q fun d S1 v H1 m1 q1 k1 g1 R1 r1 =>
    hr σ H1 m1 S1 δ _ _ R1 (e.mono k1 g1) q1 fun ds S2 vs H2 m2 q2 k2 g2 R2 r2 => c _ _ _ _ m2 q2 (k1.trans k2) (g1.trans g2) R2 (.cons (Dv.mono k2 g2 _ _ r1) r2)
theorem da_cons (h : PD X e te t) (hr : PAD X es ta u) (hs : starEach (e :: es) X.env = (false, eval e X.env) :: starEach es X.env := by rfl) : PAD X (e :: es) (tCons te ta) (dCons t u) :=
  ⟨pa_cons h.pe hr.pe hs, sim_cons h.sim hr.sim⟩
@[simp] def dTup (u : DA) : DE := fun δ S Q => u δ S fun ds S1 => ds.length ≤ 100000 ∧ Q (.tup ds) S1
@[simp] def dLst (u : DA) : DE := fun δ S Q => u δ S fun ds S1 => ds.length ≤ 100000 ∧ Q (.loc S1.length) (S1 ++ [.lst ds])
theorem d_tup {x1} (h : PAD X es ta u) : PD X (.Tuple es x1 pos) (tTup ta) (dTup u) := ⟨pe_tup h.pe, fun σ H m S δ Q Q' R e q c =>
  h.sim σ H m S δ _ _ R e q fun ds S1 vs H1 m1 ⟨hl, q1⟩ k1 g1 R1 r1 => ⟨by rw [r1.length]; exact small5 hl, (c.mono k1 g1).newT R1 r1 q1⟩⟩
theorem d_lst (h : PAD X es ta u) : PD X (.List es pos) (tLst ta) (dLst u) := ⟨pe_lst h.pe, fun σ H m S δ Q Q' R e q c =>
  h.sim σ H m S δ _ _ R e q fun ds S1 vs H1 m1 ⟨hl, q1⟩ k1 g1 R1 r1 => ⟨by rw [r1.length]; exact small5 hl, (c.mono k1 g1).newL R1 r1 q1⟩⟩
end

/-! ### operators -/
section
variable {X : Cx} {pos : Pos} {a b c : Expr} {ta tb tc : TE} {t u w : DE} {r r2 : R2} {r' r2' : D → D → Sto → DK → Prop} {f : Value → Value → Sem Value}
@[simp] def dOp (r' : D → D → Sto → DK → Prop) (t u : DE) : DE := fun δ S Q => t δ S fun x S1 => u δ S1 fun y S2 => r' x y S2 Q
theorem sim_op {K : PySem.W.Frag} (h1 : SimE K ta t) (h2 : SimE K tb u) (h3 : ∀ (H : Hp) (m : Mp) (S : Sto) (x y : D) (vx vy : V) (Q : VK) (Q' : DK), Rel K H m S → Dv K H m vx x → Dv K H m vy y → r' x y S Q' → Cont K H m Q' Q → r vx vy H Q) :
    SimE K (tOp r ta tb) (dOp r' t u) := fun σ H m S δ Q Q' R e q c =>
  h1 σ H m S δ _ _ R e q fun x S1 vx H1 m1 q1 k1 g1 R1 r1 =>
    h2 σ H1 m1 S1 δ _ _ R1 (e.mono k1 g1) q1 fun y S2 vy H2 m2 q2 k2 g2 R2 r2 =>
      h3 H2 m2 S2 x y vx vy Q Q' R2 (Dv.mono k2 g2 _ _ r1) r2 q2 (c.mono (k1.trans k2) (g1.trans g2))
theorem d_op {op : Operator} (o : OpD X (binaryOp op) r r') (h1 : PD X a ta t) (h2 : PD X b tb u) : PD X (.BinOp a op b pos) (tOp r ta tb) (dOp r' t u) := ⟨pe_op o.op h1.pe h2.pe, sim_op h1.sim h2.sim o.sim⟩
theorem d_cmp {op : CmpOp} (o : OpD X (compareOp op) r r') (h1 : PD X a ta t) (h2 : PD X b tb u) (hm : behindInMarks op b = false) : PD X (.Compare a [op] [b] pos) (tOp r ta tb) (dOp r' t u) := ⟨pe_cmpR o.op h1.pe h2.pe hm, sim_op h1.sim h2.sim o.sim⟩
@[simp] def dTest (t : DE) : DT := fun δ S Q => t δ S fun d S1 => ∃ k, d = .bl k ∧ Q k S1
theorem sim_test {K : PySem.W.Frag} (h : SimE K ta t) : SimT K (tTest ta) (dTest t) := fun σ H m S δ Q Q' R e q c =>
  h σ H m S δ _ _ R e q fun d S1 v H1 m1 ⟨k, ek, q1⟩ k1 g1 R1 r1 => by
    subst ek
    cases r1
    exact ⟨k, rfl, c k S1 H1 m1 q1 k1 g1 R1⟩
theorem sim_B {K : PySem.W.Frag} (h : SimE K ta t) : SimT K (tB ta) (dTest t) := sim_test h
theorem dt_cmp {op : CmpOp} (o : OpD X (compareOp op) r r') (h1 : PD X a ta t) (h2 : PD X b tb u) (hm : behindInMarks op b = false) : PTD X (.Compare a [op] [b] pos) (tTest (tOp r ta tb)) (dTest (dOp r' t u)) :=
  ⟨pt_cmpR o.op h1.pe h2.pe hm, sim_test (sim_op h1.sim h2.sim o.sim)⟩
@[simp] def dChain (r' r2' : D → D → Sto → DK → Prop) (t u w : DE) : DE := fun δ S Q => t δ S fun x S1 => u δ S1 fun y S2 => r' x y S2 fun z S3 => ∃ k, z = .bl k ∧ (if k = true then w δ S3 fun z2 S4 => r2' y z2 S4 Q else Q (.bl false) S3)
theorem sim_chain {K : PySem.W.Frag} (h1 : SimE K ta t) (h2 : SimE K tb u) (h0 : SimE K tc w) (h3 : ∀ (H : Hp) (m : Mp) (S : Sto) (x y : D) (vx vy : V) (Q : VK) (Q' : DK), Rel K H m S → Dv K H m vx x → Dv K H m vy y → r' x y S Q' → Cont K H m Q' Q → r vx vy H Q)
    (h4 : ∀ (H : Hp) (m : Mp) (S : Sto) (x y : D) (vx vy : V) (Q : VK) (Q' : DK), Rel K H m S → Dv K H m vx x → Dv K H m vy y → r2' x y S Q' → Cont K H m Q' Q → r2 vx vy H Q) :
    SimE K (tChain r r2 ta tb tc) (dChain r' r2' t u w) := by
  intro σ H m S δ Q Q' R e q c
  refine h1 σ H m S δ _ _ R e q ?_
  intro x S1 vx H1 m1 q1 k1 g1 R1 r1
  refine h2 σ H1 m1 S1 δ _ _ R1 (e.mono k1 g1) q1 ?_
  intro y S2 vy H2 m2 q2 k2 g2 R2 ry
  refine h3 H2 m2 S2 x y vx vy _ _ R2 (Dv.mono k2 g2 _ _ r1) ry q2 ?_
  intro z S3 vz H3 m3 q3 k3 g3 R3 r3
  obtain ⟨k, ek, q3⟩ := q3
  subst ek
  cases r3
  refine ⟨k, rfl, ?_⟩
  have kk := (k1.trans k2).trans k3
  have gg := (g1.trans g2).trans g3
  cases k with
  | false => exact c _ _ _ _ m3 q3 kk gg R3 (.bl false)
  | true =>
    refine h0 σ H3 m3 S3 δ _ _ R3 (e.mono kk gg) q3 ?_
    intro z2 S4 v2 H4 m4 q4 k4 g4 R4 r4
    exact h4 H4 m4 S4 y z2 vy v2 Q Q' R4 (Dv.mono (k3.trans k4) (g3.trans g4) _ _ ry) r4 q4 (c.mono (kk.trans k4) (gg.trans g4))
theorem d_chain {op op' : CmpOp} (o : OpD X (compareOp op) r r') (o' : OpD X (compareOp op') r2 r2') (h1 : PD X a ta t) (h2 : PD X b tb u) (h3 : PD X c tc w) (hm : lastMarks [op, op'] [b, c] = false := by with_unfolding_all rfl) :
    PD X (.Compare a [op, op'] [b, c] pos) (tChain r r2 ta tb tc) (dChain r' r2' t u w) := ⟨pe_chain o.op o'.op h1.pe h2.pe h3.pe hm, sim_chain h1.sim h2.sim h3.sim o.sim o'.sim⟩
theorem dt_chain {op op' : CmpOp} (o : OpD X (compareOp op) r r') (o' : OpD X (compareOp op') r2 r2') (h1 : PD X a ta t) (h2 : PD X b tb u) (h3 : PD X c tc w) (hm : lastMarks [op, op'] [b, c] = false := by with_unfolding_all rfl) :
    PTD X (.Compare a [op, op'] [b, c] pos) (tTest (tChain r r2 ta tb tc)) (dTest (dChain r' r2' t u w)) := ⟨pt_chain o.op o'.op h1.pe h2.pe h3.pe hm, sim_test (sim_chain h1.sim h2.sim h3.sim o.sim o'.sim)⟩
theorem dt_val {e : Expr} (h : PD X e ta t) (he : ∀ whole, isTrue e X.env whole = (do let v ← whole; standAt e.pos; holding [v] (truthy v)) := by intro _; rfl) : PTD X e (tB ta) (dTest t) := ⟨pt_val h.pe he, sim_B h.sim⟩

/-! ### and, or, not -/
variable {tA tB' : TT} {dA dB : DT} {rest : List Expr}
@[simp] def dAnd (t u : DT) : DT := fun δ S Q => t δ S fun k S1 => if k = true then u δ S1 Q else Q false S1
@[simp] def dOr (t u : DT) : DT := fun δ S Q => t δ S fun k S1 => if k = true then Q true S1 else u δ S1 Q
@[simp] def dNot (t : DT) : DT := fun δ S Q => t δ S fun k S1 => Q (!k) S1
theorem dw_and1 (h : PTD X a tA dA) : PWD X (.BoolOp .And [a] pos) tA dA := ⟨pw_and1 h.pe, h.sim⟩
theorem dw_or1 (h : PTD X a tA dA) : PWD X (.BoolOp .Or [a] pos) tA dA := ⟨pw_or1 h.pe, h.sim⟩
theorem dw_and (h : PTD X a tA dA) (h2 : PWD X (.BoolOp .And (b :: rest) pos) tB' dB) : PWD X (.BoolOp .And (a :: b :: rest) pos) (tAnd tA tB') (dAnd dA dB) := ⟨pw_and h.pe h2.pe, fun σ H m S δ Q Q' R e q c =>
  h.sim σ H m S δ _ _ R e q fun k S1 H1 m1 q1 k1 g1 R1 => by
    cases k with
    | true => exact h2.sim σ H1 m1 S1 δ _ _ R1 (e.mono k1 g1) q1 (c.mono k1 g1)
    | false => exact c false S1 H1 m1 q1 k1 g1 R1⟩
theorem dw_or (h : PTD X a tA dA) (h2 : PWD X (.BoolOp .Or (b :: rest) pos) tB' dB) : PWD X (.BoolOp .Or (a :: b :: rest) pos) (tOr tA tB') (dOr dA dB) := ⟨pw_or h.pe h2.pe, fun σ H m S δ Q Q' R e q c =>
  h.sim σ H m S δ _ _ R e q fun k S1 H1 m1 q1 k1 g1 R1 => by
    cases k with
    | false => exact h2.sim σ H1 m1 S1 δ _ _ R1 (e.mono k1 g1) q1 (c.mono k1 g1)
    | true => exact c true S1 H1 m1 q1 k1 g1 R1⟩
theorem dt_w (h : PWD X a tA dA) : PTD X a tA dA := ⟨h.pe.pt, h.sim⟩
theorem dt_not (h : PTD X a tA dA) : PTD X (.UnaryOp .Not a pos) (tNot tA) (dNot dA) := ⟨pt_not h.pe, fun σ H m S δ Q Q' R e q c =>
  h.sim σ H m S δ _ _ R e q fun k S1 H1 m1 q1 k1 g1 R1 => c (!k) S1 H1 m1 q1 k1 g1 R1⟩
@[simp] def dAndV (t u : DE) : DE := fun δ S Q => t δ S fun x S1 => ∃ k, x = .bl k ∧ if k = true then u δ S1 Q else Q (.bl false) S1
@[simp] def dOrV (t u : DE) : DE := fun δ S Q => t δ S fun x S1 => ∃ k, x = .bl k ∧ if k = true then Q (.bl true) S1 else u δ S1 Q
@[simp] def dNotV (t : DE) : DE := fun δ S Q => t δ S fun x S1 => ∃ k, x = .bl k ∧ Q (.bl (!k)) S1
theorem d_one {op} (h : PD X a ta t) : PD X (.BoolOp op [a] pos) ta t := ⟨pe_one h.pe, h.sim⟩
theorem d_and (h : PD X a ta t) (h2 : PD X (.BoolOp .And (b :: rest) pos) tb u) : PD X (.BoolOp .And (a :: b :: rest) pos) (tAndV ta tb) (dAndV t u) := ⟨pe_and h.pe h2.pe, fun σ H m S δ Q Q' R e q c =>
  h.sim σ H m S δ _ _ R e q fun x S1 v H1 m1 ⟨k, ek, q1⟩ k1 g1 R1 r1 => by
    subst ek
    cases r1
    refine ⟨k, rfl, ?_⟩
    cases k with
    | true => exact h2.sim σ H1 m1 S1 δ _ _ R1 (e.mono k1 g1) q1 (c.mono k1 g1)
    | false => exact c _ S1 _ H1 m1 q1 k1 g1 R1 (.bl false)⟩
theorem d_or (h : PD X a ta t) (h2 : PD X (.BoolOp .Or (b :: rest) pos) tb u) : PD X (.BoolOp .Or (a :: b :: rest) pos) (tOrV ta tb) (dOrV t u) := ⟨pe_or h.pe h2.pe, fun σ H m S δ Q Q' R e q c =>
  h.sim σ H m S δ _ _ R e q fun x S1 v H1 m1 ⟨k, ek, q1⟩ k1 g1 R1 r1 => by
    subst ek
    cases r1
    refine ⟨k, rfl, ?_⟩
    cases k with
    | false => exact h2.sim σ H1 m1 S1 δ _ _ R1 (e.mono k1 g1) q1 (c.mono k1 g1)
    | true => exact c _ S1 _ H1 m1 q1 k1 g1 R1 (.bl true)⟩
theorem d_not (h : PD X a ta t) : PD X (.UnaryOp .Not a pos) (tNotV ta) (dNotV t) := ⟨pe_not h.pe, fun σ H m S δ Q Q' R e q c =>
  h.sim σ H m S δ _ _ R e q fun x S1 v H1 m1 ⟨k, ek, q1⟩ k1 g1 R1 r1 => by
    subst ek
    cases r1
    exact ⟨k, rfl, c _ S1 _ H1 m1 q1 k1 g1 R1 (.bl (!k))⟩⟩
@[simp] def dIf (t : DT) (u w : DE) : DE := fun δ S Q => t δ S fun k S1 => if k = true then u δ S1 Q else w δ S1 Q
theorem d_ifExp {c : Expr} (h : PTD X c tA dA) (h1 : PD X a ta t) (h2 : PD X b tb u) : PD X (.IfExp c a b pos) (tIf tA ta tb) (dIf dA t u) := ⟨pe_ifExp h.pe h1.pe h2.pe, fun σ H m S δ Q Q' R e q c =>
  h.sim σ H m S δ _ _ R e q fun k S1 H1 m1 q1 k1 g1 R1 => by
    cases k with
    | true => exact h1.sim σ H1 m1 S1 δ _ _ R1 (e.mono k1 g1) q1 (c.mono k1 g1)
    | false => exact h2.sim σ H1 m1 S1 δ _ _ R1 (e.mono k1 g1) q1 (c.mono k1 g1)⟩
@[simp] def dNeg (t : DE) : DE := fun δ S Q => t δ S fun x S1 => ∃ i, x = .int i ∧ Q (.int (-i)) S1
theorem d_neg (h : PD X a ta t) : PD X (.UnaryOp .USub a pos) (tUn (rU fun i => .int (-i)) ta) (dNeg t) := ⟨pe_un un_neg h.pe, fun σ H m S δ Q Q' R e q c =>
  h.sim σ H m S δ _ _ R e q fun x S1 v H1 m1 ⟨i, ei, q1⟩ k1 g1 R1 r1 => by
    subst ei
    cases r1
    exact ⟨i, rfl, c _ S1 _ H1 m1 q1 k1 g1 R1 (.int (-i))⟩⟩
end
end DL

set_option Elab.async false
set_option linter.all false
set_option maxRecDepth 100000
set_option maxHeartbeats 1000000
namespace DL
open PySem L2 PyProof.Rows

/-! ### a value as plain data -/
mutual
inductive PyOf (S : Sto) : D → PyData → Prop
  | non : PyOf S .non .none
  | bl (b : Bool) : PyOf S (.bl b) (.bool b)
  | int (i : Int) : PyOf S (.int i) (.int i)
  | str (x : Str) : PyOf S (.str x) (.str x)
  | tup {ds : List D} {ps : List PyData} : PyOfA S ds ps → PyOf S (.tup ds) (.tuple ps)
  | lst {i : Nat} {ds : List D} {ps : List PyData} : S[i]? = some (.lst ds) → PyOfA S ds ps → PyOf S (.loc i) (.list ps)
inductive PyOfA (S : Sto) : List D → List PyData → Prop
  | nil : PyOfA S [] []
  | cons {d : D} {ds : List D} {p : PyData} {ps : List PyData} : PyOf S d p → PyOfA S ds ps → PyOfA S (d :: ds) (p :: ps)
end
section
variable {K : PySem.W.Frag} {H : Hp} {m : Mp} {S : Sto}
mutual
theorem dp_of (R : Rel K H m S) : ∀ (p : PyData) (d : D) (v : V), PyOf S d p → Dv K H m v d → Dp K H v p
  | .none, _, _, h, r => by cases h; cases r; exact .non
  | .bool b, _, _, h, r => by cases h; cases r; exact .bl b
  | .int i, _, _, h, r => by cases h; cases r; exact .int i
  | .str x, _, _, h, r => by cases h; cases r; exact .str x
  | .tuple ps, _, _, h, r => by
    cases h with
    | tup ha =>
      cases r with
      | tup hs hr => exact .tup hs (dpA_of R ps _ _ ha hr)
  | .list ps, _, _, h, r => by
    cases h with
    | lst hs ha =>
      obtain ⟨a, vs, rfl, _, hH, hr⟩ := R.lst r hs
      exact .lst (SqL.of hH) (dpA_of R ps _ _ ha hr)
  | .dict _, _, _, h, _ => by cases h
theorem dpA_of (R : Rel K H m S) : ∀ (ps : List PyData) (ds : List D) (vs : List V), PyOfA S ds ps → DvA K H m vs ds → DpAll K H vs ps
  | [], _, _, h, r => by cases h; cases r; exact .nil
  | p :: ps, _, _, h, r => by
    cases h with
    | cons h1 h2 =>
      cases r with
      | cons r1 r2 => exact .cons (dp_of R p _ _ h1 r1) (dpA_of R ps _ _ h2 r2)
end
end

section
variable {X : Cx} {f : Value → Value → Sem Value} {r r2 : R2} {r' r2' : D → D → Sto → DK → Prop}
theorem OpD.or (h : OpD X f r r') (h2 : OpD X f r2 r2') : OpD X f (fun x y H Q => r x y H Q ∨ r2 x y H Q) (fun x y S Q => r' x y S Q ∨ r2' x y S Q) :=
  ⟨h.op.or h2.op, fun H m S x y vx vy Q Q' R rx ry q c => q.elim (fun q => .inl (h.sim H m S x y vx vy Q Q' R rx ry q c)) fun q => .inr (h2.sim H m S x y vx vy Q Q' R rx ry q c)⟩
theorem OpD.imp {s' : D → D → Sto → DK → Prop} (h : OpD X f r r') (i : ∀ x y S Q, s' x y S Q → r' x y S Q) : OpD X f r s' := ⟨h.op, fun H m S x y vx vy Q Q' R rx ry q c => h.sim H m S x y vx vy Q Q' R rx ry (i _ _ _ _ q) c⟩
/-- two ints -/
@[simp] def rdI (C : Int → Int → Prop) (g : Int → Int → D) : D → D → Sto → DK → Prop := fun x y S Q => ∃ i j, x = .int i ∧ y = .int j ∧ C i j ∧ Q (g i j) S
theorem od_I {C : Int → Int → Prop} {g : Int → Int → V} {g' : Int → Int → D} (o : OpR X f (rI C g)) (hg : ∀ i j H m, Dv X.K H m (g i j) (g' i j)) : OpD X f (rI C g) (rdI C g') := ⟨o, fun H m S x y vx vy Q Q' R rx ry q c => by
  obtain ⟨i, j, rfl, rfl, hc, q⟩ := q
  cases rx
  cases ry
  exact ⟨i, j, rfl, rfl, hc, c.same R q (hg i j H m)⟩⟩
@[simp] def rdI0 (g : Int → Int → D) : D → D → Sto → DK → Prop := fun x y S Q => ∃ i j, x = .int i ∧ y = .int j ∧ Q (g i j) S
theorem od_I0 {g : Int → Int → V} {g' : Int → Int → D} (o : OpR X f (rI0 g)) (hg : ∀ i j H m, Dv X.K H m (g i j) (g' i j)) : OpD X f (rI0 g) (rdI0 g') := ⟨o, fun H m S x y vx vy Q Q' R rx ry q c => by
  obtain ⟨i, j, rfl, rfl, q⟩ := q
  cases rx
  cases ry
  exact ⟨i, j, rfl, rfl, c.same R q (hg i j H m)⟩⟩
theorem od_sub : OpD X (binaryOp .Sub) (rI0 fun i j => .int (i - j)) (rdI0 fun i j => .int (i - j)) := od_I0 op_sub fun _ _ _ _ => .int _
theorem od_mod : OpD X (binaryOp .Mod) (rI (fun _ j => 0 < j) fun i j => .int (i % j)) (rdI (fun _ j => 0 < j) fun i j => .int (i % j)) := od_I op_mod fun _ _ _ _ => .int _
theorem od_fdiv : OpD X (binaryOp .FloorDiv) (rI CDiv fun i j => .int (i / j)) (rdI CDiv fun i j => .int (i / j)) := od_I op_fdiv fun _ _ _ _ => .int _
theorem od_pow : OpD X (binaryOp .Pow) (rI CPow fun i j => .int (i ^ j.toNat)) (rdI CPow fun i j => .int (i ^ j.toNat)) := od_I op_pow fun _ _ _ _ => .int _
theorem od_lt : OpD X (compareOp .Lt) (rI0 fun i j => .bl (decide (i < j))) (rdI0 fun i j => .bl (decide (i < j))) := od_I0 op_lt fun _ _ _ _ => .bl _
theorem od_le : OpD X (compareOp .LtE) (rI0 fun i j => .bl (decide (i ≤ j))) (rdI0 fun i j => .bl (decide (i ≤ j))) := od_I0 op_le fun _ _ _ _ => .bl _
theorem od_gt : OpD X (compareOp .Gt) (rI0 fun i j => .bl (decide (j < i))) (rdI0 fun i j => .bl (decide (j < i))) := od_I0 op_gt fun _ _ _ _ => .bl _
theorem od_ge : OpD X (compareOp .GtE) (rI0 fun i j => .bl (decide (j ≤ i))) (rdI0 fun i j => .bl (decide (j ≤ i))) := od_I0 op_ge fun _ _ _ _ => .bl _
/-- + -/
def rdCatT : D → D → Sto → DK → Prop := fun x y S Q => ∃ a b, x = .tup a ∧ y = .tup b ∧ a.length + b.length ≤ 100000 ∧ Q (.tup (a ++ b)) S
theorem od_catT : OpD X (binaryOp .Add) (rCatA X.K) rdCatT := ⟨op_catA, fun H m S x y vx vy Q Q' R rx ry q c => by
  obtain ⟨a, b, rfl, rfl, hl, q⟩ := q
  cases rx with
  | tup s1 d1 =>
    cases ry with
    | tup s2 d2 =>
      refine ⟨_, _, _, _, rfl, rfl, s1, s2, by rw [d1.length, d2.length]; exact small5 hl, fun e => ?_, fun _ e => ?_, fun _ _ => c.newT R (d1.append d2) q⟩
      · subst e
        cases d1
        exact c.same R q (.tup s2 d2)
      · subst e
        cases d2
        rw [List.append_nil] at q
        exact c.same R q (.tup s1 d1)⟩
def rdCatS : D → D → Sto → DK → Prop := fun x y S Q => ∃ a b, x = .str a ∧ y = .str b ∧ a.length + b.length ≤ 100000 ∧ Q (.str (a ++ b)) S
theorem od_catS : OpD X (binaryOp .Add) (fun x y H Q => ∃ i j, x = .str i ∧ y = .str j ∧ i.length + j.length ≤ sizeLine ∧ Q (.str (i ++ j)) H) rdCatS := ⟨op_add_str, fun H m S x y vx vy Q Q' R rx ry q c => by
  obtain ⟨a, b, rfl, rfl, hl, q⟩ := q
  cases rx
  cases ry
  exact ⟨a, b, rfl, rfl, small5 hl, c.same R q (.str _)⟩⟩
def rdCatL : D → D → Sto → DK → Prop := fun x y S Q => ∃ i j a b, x = .loc i ∧ y = .loc j ∧ S[i]? = some (.lst a) ∧ S[j]? = some (.lst b) ∧ a.length + b.length ≤ 100000 ∧ Q (.loc S.length) (S ++ [.lst (a ++ b)])
theorem od_catL : OpD X (binaryOp .Add) rCat rdCatL := ⟨op_cat, fun H m S x y vx vy Q Q' R rx ry q c => by
  obtain ⟨i, j, a, b, rfl, rfl, s1, s2, hl, q⟩ := q
  obtain ⟨p1, vs1, rfl, _, h1, d1⟩ := R.lst rx s1
  obtain ⟨p2, vs2, rfl, _, h2, d2⟩ := R.lst ry s2
  exact ⟨p1, p2, _, _, rfl, rfl, h1, h2, by rw [d1.length, d2.length]; exact small5 hl, c.newL R (d1.append d2) q⟩⟩
@[simp] def rdAdd : D → D → Sto → DK → Prop := fun x y S Q => match x, y with
  | .int i, .int j => Q (.int (i + j)) S
  | .tup a, .tup b => a.length + b.length ≤ 100000 ∧ Q (.tup (a ++ b)) S
  | .str a, .str b => a.length + b.length ≤ 100000 ∧ Q (.str (a ++ b)) S
  | .loc i, .loc j => ∃ a b, S[i]? = some (.lst a) ∧ S[j]? = some (.lst b) ∧ a.length + b.length ≤ 100000 ∧ Q (.loc S.length) (S ++ [.lst (a ++ b)])
  | _, _ => False
def vStrCat : R2 := fun x y H Q => ∃ i j, x = .str i ∧ y = .str j ∧ i.length + j.length ≤ sizeLine ∧ Q (.str (i ++ j)) H
def vAdd (K : PySem.W.Frag) : R2 := fun x y H Q => rI0 (fun i j => .int (i + j)) x y H Q ∨ (rCatA K x y H Q ∨ (vStrCat x y H Q ∨ rCat x y H Q))
theorem od_add : OpD X (binaryOp .Add) (vAdd X.K) rdAdd := ((od_I0 (g' := fun i j => .int (i + j)) op_add fun _ _ _ _ => .int _).or (od_catT.or (od_catS.or od_catL))).imp fun x y S Q q => by
  unfold rdAdd at q
  split at q
  · exact .inl ⟨_, _, rfl, rfl, q⟩
  · exact .inr (.inl ⟨_, _, rfl, rfl, q⟩)
  · exact .inr (.inr (.inl ⟨_, _, rfl, rfl, q⟩))
  · obtain ⟨a, b, q⟩ := q
    exact .inr (.inr (.inr ⟨_, _, a, b, rfl, rfl, q⟩))
  · exact q.elim
/-- * -/
def rdRepL : D → D → Sto → DK → Prop := fun x y S Q => ∃ i k a, x = .loc i ∧ y = .int k ∧ S[i]? = some (.lst a) ∧ -1000 ≤ k ∧ k ≤ 1000 ∧ a.length ≤ 100 ∧ Q (.loc S.length) (S ++ [.lst (List.replicate k.toNat a).flatten])
theorem od_repL : OpD X (binaryOp .Mult) rRep rdRepL := ⟨op_rep, fun H m S x y vx vy Q Q' R rx ry q c => by
  obtain ⟨i, k, a, rfl, rfl, s1, k1, k2, hl, q⟩ := q
  obtain ⟨p1, vs1, rfl, _, h1, d1⟩ := R.lst rx s1
  cases ry
  refine ⟨p1, k, _, rfl, rfl, h1, by omega, by omega, ?_, c.newL R (d1.rep _) q⟩
  rw [d1.length]
  have a1 : a.length * k.toNat ≤ 100 * 1000 := Nat.mul_le_mul hl (by omega)
  exact small5 a1⟩

/-- tuple * 0, tuple * 1 -/
theorem tuple_mul1 (l : Addr) (items : Array Value) (n : Nat) (dd : Option Addr) (sl : Array (Option Value)) (x : Int) (u : Tok) (c0 : (decide (x < -(2 ^ 63)) || decide (x ≥ 2 ^ 63)) = false) (c1 : (items.isEmpty || x == 1) = true) :
    Meets (Builtin.«tuple.__mul__» ⟨[.ref l, .int x u], []⟩) (fun _ R s => s.heap.get? l = some { cls := .type "tuple", dict := dd, data := .seq items n, slots := sl } ∧ R (.ok (.ret (Value.ref l))) s) :=
  .of_wp fun prog w A R s h => by
    obtain ⟨hp, g, d, tk, os⟩ := s
    obtain ⟨hl, h⟩ := h
    have f1 := AutoSeq1.idx_int
    wp_walk using wpAny_loadPart' hl
    refine wpAny_ite_false (decide_eq_false (by rw [c0]; exact Bool.false_ne_true)) ?_
    wp_walk using wpAny_loadPart' hl
    exact ⟨_, rfl, h⟩
theorem tuple_mul0 (l : Addr) (items : Array Value) (n : Nat) (dd : Option Addr) (sl : Array (Option Value)) (x : Int) (u : Tok) (c0 : (decide (x < -(2 ^ 63)) || decide (x ≥ 2 ^ 63)) = false) (c1 : (items.isEmpty || x == 1) = false) (c2 : (decide (x ≤ 0) || items.isEmpty) = true) :
    Meets (Builtin.«tuple.__mul__» ⟨[.ref l, .int x u], []⟩) (fun _ R s => s.heap.get? l = some { cls := .type "tuple", dict := dd, data := .seq items n, slots := sl } ∧ R (.ok (.ret (Value.ref s.heap.objs.size))) { s with heap := s.heap.push { cls := Value.type "tuple", data := Data.seq #[] }, toks := s.toks }) :=
  .of_wp fun prog w A R s h => by
    obtain ⟨hp, g, d, tk, os⟩ := s
    obtain ⟨hl, h⟩ := h
    have f1 := AutoSeq1.idx_int
    wp_walk using wpAny_loadPart' hl
    repeat (first
      | (refine wpAny_ite_false (decide_eq_false (by rw [c0]; exact Bool.false_ne_true)) ?_; wp_walk using wpAny_loadPart' hl)
      | (refine wpAny_ite_false (decide_eq_false (by rw [c1]; exact Bool.false_ne_true)) ?_; wp_walk using wpAny_loadPart' hl)
      | (refine wpAny_ite_true (decide_eq_true c2) ?_; wp_walk using wpAny_loadPart' hl)
      | (refine wpAny_ite_false (decide_eq_false (by decide)) ?_; wp_walk using wpAny_loadPart' hl))
    exact ⟨_, rfl, h⟩
/-- tuple * int, any count -/
def rRepA (K : PySem.W.Frag) : R2 := fun x y H Q => ∃ l k xs, x = .ref l ∧ y = .int k ∧ SqT K H l xs ∧ xs ≠ [] ∧ 0 ≤ k ∧ k ≤ 2000 ∧ xs.length ≤ 40 ∧
  (k = 1 → Q (.ref l) H) ∧ (k ≠ 1 → ∀ p, H p = none → Q (.ref p) (upd H p (.tup (List.replicate k.toNat xs).flatten)))
theorem op_repA : OpR X (binaryOp .Mult) (rRepA X.K) := by
  intro pins s σ H x y v u Q I rx ry h
  obtain ⟨l, k, xs, rfl, rfl, hT, hne, h1, h2, hz, q1, q2⟩ := h
  cases rx
  obtain ⟨t, rfl⟩ := ry
  obtain ⟨its, r, ⟨⟨cls, dd, data, sl⟩, ho, hc, n, hd⟩, hs⟩ := I.tuple hT
  simp only at hc hd
  subst hc hd
  have hle : its.length = xs.length := r.length.symm
  have hpos : 0 < xs.length := List.length_pos_iff.mpr hne
  have hi : its.toArray.isEmpty = false := by
    cases its with
    | nil => rw [← hle] at hpos; exact absurd hpos (Nat.lt_irrefl 0)
    | cons a b => rfl
  have c0 : (decide (k < -(2 ^ 63)) || decide (k ≥ 2 ^ 63)) = false := by
    rw [decide_eq_false (by omega), decide_eq_false (by omega)] <;> rfl
  refine wpAny_binaryOp_repeat_ref (T := "tuple") (U := "int") (by decide) ⟨_, ho, rfl⟩ (fun s' => typeIs_int s' k t) noFill_tuple_mul F.fills_int_mul
    F.slot_int_rmul repeat_tuple F.slot_int_index.lookup (call_meets F.slot_int_rmul (typeIs_int s k t) F.entry_int_rmul (F.args_int_rmul_2 _ _)
      (int_rmul_tuple k t l its.toArray n dd sl) ⟨ho, rfl, ⟨_, ho, rfl⟩, ?_⟩)
  by_cases k1 : k = 1
  · refine call_meets F.slot_tuple_mul ⟨_, ho, rfl⟩ F.entry_tuple_mul (F.args_tuple_mul_2 _ _) (tuple_mul1 l its.toArray n dd sl k t c0 (by rw [k1]; simp)) ⟨ho, ?_⟩
    exact ⟨.ref l, H, I, rfl, q1 k1⟩
  · have c1 : (its.toArray.isEmpty || k == 1) = false := by rw [hi, Bool.false_or]; exact beq_eq_false_iff_ne.mpr k1
    by_cases k0 : k = 0
    · refine call_meets F.slot_tuple_mul ⟨_, ho, rfl⟩ F.entry_tuple_mul (F.args_tuple_mul_2 _ _) (tuple_mul0 l its.toArray n dd sl k t c0 c1 (by rw [k0]; simp)) ⟨ho, ?_⟩
      refine ⟨.ref s.heap.objs.size, _, I.laid (t' := s.toks) (o := .tup (List.replicate k.toNat xs).flatten) (fun b ob q => Heap.get?_push_of_some _ q) (Nat.le_refl _) ?_, rfl, q2 k1 _ (I.hok.fresh (Nat.le_refl _))⟩
      subst k0
      exact ⟨Nat.zero_le _, [], .nil, IsTup.new _ _⟩
    · have hm : k.toNat * xs.length ≤ 2000 * 40 := Nat.mul_le_mul (by omega) hz
      have flen : (List.replicate k.toNat its).flatten.length ≤ sizeLine := by
        rw [PyProof.Rows.lm_len_rep_flat, hle]
        exact small5 (by omega)
      have hm2 : ((its.toArray.size : Nat) : Int) * k ≤ 80000 := by
        rw [List.size_toArray, hle, Int.mul_comm]
        have e : k = ((k.toNat : Nat) : Int) := by omega
        have h3 := Int.ofNat_le.mpr (show k.toNat * xs.length ≤ 80000 from hm)
        rw [Int.natCast_mul] at h3
        rw [e]
        exact h3
      have c2 : (decide (k ≤ 0) || its.toArray.isEmpty) = false := by
        rw [hi, Bool.or_false]
        exact decide_eq_false (by omega)
      have c4 : Builtin.Tuple.tupleTooMany (((its.toArray.size : Nat) : Int) * k) = false := by
        unfold Builtin.Tuple.tupleTooMany
        rw [sizeLine_eq]
        exact decide_eq_false (by omega)
      refine call_meets F.slot_tuple_mul ⟨_, ho, rfl⟩ F.entry_tuple_mul (F.args_tuple_mul_2 _ _)
        (tuple_mulW l its.toArray n dd sl k t c0 c1 c2 (by omega) c4 (by rw [size_rep, List.size_toArray]; exact flen)) ⟨ho, ?_⟩
      rw [size_rep]
      refine ⟨.ref s.heap.objs.size, _, I.laid (t' := s.toks) (o := .tup (List.replicate k.toNat xs).flatten) (fun b ob q => Heap.get?_push_of_some _ q) (Nat.le_refl _) ?_, rfl, q2 k1 _ (I.hok.fresh (Nat.le_refl _))⟩
      refine ⟨?_, _, r.rep k.toNat, IsTup.new _ _⟩
      rw [PyProof.Rows.lm_len_rep_flat]
      exact small5 (by omega)
def rdRepT : D → D → Sto → DK → Prop := fun x y S Q => ∃ a k, x = .tup a ∧ y = .int k ∧ a ≠ [] ∧ 0 ≤ k ∧ k ≤ 2000 ∧ a.length ≤ 40 ∧ Q (.tup (List.replicate k.toNat a).flatten) S
theorem od_repT : OpD X (binaryOp .Mult) (rRepA X.K) rdRepT := ⟨op_repA, fun H m S x y vx vy Q Q' R rx ry q c => by
  obtain ⟨a, k, rfl, rfl, ha, k0, k1, hl, q⟩ := q
  cases ry
  cases rx with
  | tup s1 d1 =>
    refine ⟨_, k, _, rfl, rfl, s1, fun e => ha (by subst e; cases d1; rfl), k0, k1, by rw [d1.length]; exact hl, fun e => ?_, fun _ => c.newT R (d1.rep _) q⟩
    subst e
    have e2 : (List.replicate (1 : Int).toNat a).flatten = a := by simp
    rw [e2] at q
    exact c.same R q (.tup s1 d1)⟩
@[simp] def rdMul : D → D → Sto → DK → Prop := fun x y S Q => match x, y with
  | .int i, .int j => CMul i j ∧ Q (.int (i * j)) S
  | .tup a, .int k => a ≠ [] ∧ 0 ≤ k ∧ k ≤ 2000 ∧ a.length ≤ 40 ∧ Q (.tup (List.replicate k.toNat a).flatten) S
  | .loc i, .int k => ∃ a, S[i]? = some (.lst a) ∧ -1000 ≤ k ∧ k ≤ 1000 ∧ a.length ≤ 100 ∧ Q (.loc S.length) (S ++ [.lst (List.replicate k.toNat a).flatten])
  | _, _ => False
def vMul (K : PySem.W.Frag) : R2 := fun x y H Q => rI CMul (fun i j => .int (i * j)) x y H Q ∨ (rRepA K x y H Q ∨ rRep x y H Q)
theorem od_mul : OpD X (binaryOp .Mult) (vMul X.K) rdMul := ((od_I (g' := fun i j => .int (i * j)) op_mul fun _ _ _ _ => .int _).or (od_repT.or od_repL)).imp fun x y S Q q => by
  unfold rdMul at q
  split at q
  · exact .inl ⟨_, _, rfl, rfl, q⟩
  · exact .inr (.inl ⟨_, _, rfl, rfl, q⟩)
  · obtain ⟨a, q⟩ := q
    exact .inr (.inr ⟨_, _, a, rfl, rfl, q⟩)
  · exact q.elim
/-- ==, != -/
@[simp] def scD : D → D → Option Bool
  | .int i, .int j => some (decide (i = j))
  | .str i, .str j => some (decide (i = j))
  | .non, .non => some true
  | .non, .str _ => some false | .non, .int _ => some false | .str _, .non => some false | .int _, .non => some false
  | .int _, .str _ => some false | .str _, .int _ => some false | .bl _, .str _ => some false
  | _, _ => none
theorem scD_ok {K : PySem.W.Frag} {H : Hp} {m : Mp} {x y : D} {vx vy : V} {b : Bool} (h : scD x y = some b) (rx : Dv K H m vx x) (ry : Dv K H m vy y) : scal vx vy = true ∧ decide (vx = vy) = b := by
  unfold scD at h
  split at h <;> first | (cases h; cases rx; cases ry; exact ⟨rfl, by simp⟩) | cases h
def rdEqP (f : Bool → Bool) : D → D → Sto → DK → Prop := fun x y S Q => ∃ p q, PyOf S x p ∧ PyOf S y q ∧ SeqAt.shaped p = true ∧ SeqAt.shaped q = true ∧ Q (.bl (f (PyData.eqv p q))) S
@[simp] def rdEq (f : Bool → Bool) : D → D → Sto → DK → Prop := fun x y S Q => match scD x y with
  | some b => Q (.bl (f b)) S
  | none => rdEqP f x y S Q
def vEq (K : PySem.W.Frag) : R2 := fun x y H Q => rEq x y H Q ∨ rEqD K x y H Q
def vNe (K : PySem.W.Frag) : R2 := fun x y H Q => rNe x y H Q ∨ rNeD K x y H Q
theorem od_eq (hu : X.A.units + 64 < cLine) : OpD X (compareOp .Eq) (vEq X.K) (rdEq id) := ⟨op_eq.or (op_eqD hu), fun H m S x y vx vy Q Q' R rx ry q c => by
  unfold rdEq at q
  split at q
  · rename_i b hb
    obtain ⟨h1, h2⟩ := scD_ok hb rx ry
    exact .inl ⟨h1, by rw [h2]; exact c.same R q (.bl b)⟩
  · obtain ⟨p, p2, h1, h2, h3, h4, q⟩ := q
    exact .inr ⟨p, p2, dp_of R p x vx h1 rx, dp_of R p2 y vy h2 ry, h3, h4, c.same R q (.bl _)⟩⟩
theorem od_ne (hu : X.A.units + 64 < cLine) : OpD X (compareOp .NotEq) (vNe X.K) (rdEq not) := ⟨op_ne.or (op_neD hu), fun H m S x y vx vy Q Q' R rx ry q c => by
  unfold rdEq at q
  split at q
  · rename_i b hb
    obtain ⟨h1, h2⟩ := scD_ok hb rx ry
    exact .inl ⟨h1, by rw [h2]; exact c.same R q (.bl _)⟩
  · obtain ⟨p, p2, h1, h2, h3, h4, q⟩ := q
    exact .inr ⟨p, p2, dp_of R p x vx h1 rx, dp_of R p2 y vy h2 ry, h3, h4, c.same R q (.bl _)⟩⟩
/-- in, not in -/
def rInT (K : PySem.W.Frag) (f : Bool → Bool) : R2 := fun x y H Q => ∃ d ds, Dp K H x d ∧ Dp K H y (.tuple ds) ∧ SeqAt.shaped d = true ∧ SeqAt.shaped (.tuple ds) = true ∧ Q (.bl (f (ds.any fun z => PyData.eqv z d))) H
theorem op_inT (hu : X.A.units + 65 < cLine) : OpR X (compareOp .In) (rInT X.K id) := by
  intro pins s σ H x y v u Q I rx ry h
  obtain ⟨d, ds, hd, he, sd, se, q⟩ := h
  obtain ⟨as, r1⟩ := Dp.reads I d x v hd rx
  obtain ⟨bs, r2⟩ := Dp.reads I (.tuple ds) y u he ry
  have e2 : PyData.canLayAll0 ds = true := SeqAt.canLay_of_shaped se
  exact SeqAt.in_tuple_reads r2 r1 e2 (SeqAt.canLay_of_shaped sd) (room_in_shaped sd hu) ⟨.bl _, H, I, rfl, q⟩
theorem op_notInT (hu : X.A.units + 65 < cLine) : OpR X (compareOp .NotIn) (rInT X.K not) := by
  intro pins s σ H x y v u Q I rx ry h
  obtain ⟨d, ds, hd, he, sd, se, q⟩ := h
  obtain ⟨as, r1⟩ := Dp.reads I d x v hd rx
  obtain ⟨bs, r2⟩ := Dp.reads I (.tuple ds) y u he ry
  have e2 : PyData.canLayAll0 ds = true := SeqAt.canLay_of_shaped se
  exact SeqAt.notIn_tuple_reads r2 r1 e2 (SeqAt.canLay_of_shaped sd) (room_in_shaped sd hu) ⟨.bl _, H, I, rfl, q⟩
def rdIn (f : Bool → Bool) : D → D → Sto → DK → Prop := fun x y S Q => match y with
  | .str z => ∃ c : Nat, x = .str ⟨#[c]⟩ ∧ Q (.bl (f (decide (c ∈ z.cps.toList)))) S
  | .tup ds => ∃ p ps, PyOf S x p ∧ PyOfA S ds ps ∧ SeqAt.shaped p = true ∧ SeqAt.shaped (.tuple ps) = true ∧ Q (.bl (f (ps.any fun z => PyData.eqv z p))) S
  | .loc i => ∃ p ps, PyOf S x p ∧ PyOf S (.loc i) (.list ps) ∧ SeqAt.shaped p = true ∧ SeqAt.shaped (.list ps) = true ∧ Q (.bl (f (ps.any fun z => PyData.eqv z p))) S
  | _ => False
def vIn (K : PySem.W.Frag) : R2 := fun x y H Q => rInS x y H Q ∨ (rInT K id x y H Q ∨ rInD K x y H Q)
def vNotIn (K : PySem.W.Frag) : R2 := fun x y H Q => rNotInS x y H Q ∨ (rInT K not x y H Q ∨ rNotInD K x y H Q)
theorem od_in (hu : X.A.units + 65 < cLine) : OpD X (compareOp .In) (vIn X.K) (rdIn id) := ⟨op_inS.or ((op_inT hu).or (op_inD hu)), fun H m S x y vx vy Q Q' R rx ry q c => by
  cases y with
  | str z =>
    obtain ⟨k, rfl, q⟩ := q
    cases rx
    cases ry
    exact .inl ⟨k, z, rfl, rfl, c.same R q (.bl _)⟩
  | tup ds =>
    obtain ⟨p, ps, h1, h2, h3, h4, q⟩ := q
    exact .inr (.inl ⟨p, ps, dp_of R p x vx h1 rx, dp_of R _ _ vy (.tup h2) ry, h3, h4, c.same R q (.bl _)⟩)
  | loc i =>
    obtain ⟨p, ps, h1, h2, h3, h4, q⟩ := q
    exact .inr (.inr ⟨p, ps, dp_of R p x vx h1 rx, dp_of R _ _ vy h2 ry, h3, h4, c.same R q (.bl _)⟩)
  | _ => exact (q : False).elim⟩
theorem od_notin (hu : X.A.units + 65 < cLine) : OpD X (compareOp .NotIn) (vNotIn X.K) (rdIn not) := ⟨op_notInS.or ((op_notInT hu).or (op_notInD hu)), fun H m S x y vx vy Q Q' R rx ry q c => by
  cases y with
  | str z =>
    obtain ⟨k, rfl, q⟩ := q
    cases rx
    cases ry
    exact .inl ⟨k, z, rfl, rfl, c.same R q (.bl _)⟩
  | tup ds =>
    obtain ⟨p, ps, h1, h2, h3, h4, q⟩ := q
    exact .inr (.inl ⟨p, ps, dp_of R p x vx h1 rx, dp_of R _ _ vy (.tup h2) ry, h3, h4, c.same R q (.bl _)⟩)
  | loc i =>
    obtain ⟨p, ps, h1, h2, h3, h4, q⟩ := q
    exact .inr (.inr ⟨p, ps, dp_of R p x vx h1 rx, dp_of R _ _ vy h2 ry, h3, h4, c.same R q (.bl _)⟩)
  | _ => exact (q : False).elim⟩
/-- is None -/
@[simp] def isNonD : D → Bool | .non => true | _ => false
@[simp] def rdIsN (f : Bool → Bool) : D → D → Sto → DK → Prop := fun x y S Q => y = .non ∧ Q (.bl (f (isNonD x))) S
theorem non_dec {K : PySem.W.Frag} {H : Hp} {m : Mp} {x : D} {v : V} (r : Dv K H m v x) : decide (v = .non) = isNonD x := by
  cases r <;> simp [isNonD]
theorem od_is : OpD X (compareOp .Is) rIsN (rdIsN id) := ⟨op_isN, fun H m S x y vx vy Q Q' R rx ry q c => by
  obtain ⟨rfl, q⟩ := q
  cases ry
  exact ⟨rfl, by rw [non_dec rx]; exact c.same R q (.bl _)⟩⟩
theorem od_isnot : OpD X (compareOp .IsNot) rNotN (rdIsN not) := ⟨op_notN, fun H m S x y vx vy Q Q' R rx ry q c => by
  obtain ⟨rfl, q⟩ := q
  cases ry
  exact ⟨rfl, by rw [non_dec rx]; exact c.same R q (.bl _)⟩⟩
end
end DL

set_option Elab.async false
set_option linter.all false
set_option maxRecDepth 100000
set_option maxHeartbeats 1000000
namespace DL
open PySem L2 PyProof.Rows

/-! ### items, slices -/
section
variable {X : Cx} {pos : Pos} {a b : Expr} {ta tb : TE} {t u : DE}
@[simp] def rdIx : D → D → Sto → DK → Prop := fun x y S Q => match x, y with
  | .tup ds, .int i => ∃ d, atI ds i = some d ∧ Q d S
  | .loc l, .int i => ∃ ds d, S[l]? = some (.lst ds) ∧ atI ds i = some d ∧ Q d S
  | .str z, .int i => ∃ c, z.length ≤ 100000 ∧ atI z.cps.toList i = some c ∧ Q (.str ⟨#[c]⟩) S
  | _, _ => False
theorem sim_ix {K : PySem.W.Frag} (H : Hp) (m : Mp) (S : Sto) (x y : D) (vx vy : V) (Q : VK) (Q' : DK) (R : Rel K H m S) (rx : Dv K H m vx x) (ry : Dv K H m vy y) (q : rdIx x y S Q') (c : Cont K H m Q' Q) : rIx K vx vy H Q := by
  unfold rdIx at q
  split at q
  · obtain ⟨d, h, q⟩ := q
    cases ry
    cases rx with
    | tup s1 d1 =>
      obtain ⟨v, h1, h2⟩ := d1.atI h
      exact .inr (.inl ⟨_, _, _, v, rfl, rfl, s1, h1, c.same R q h2⟩)
  · obtain ⟨ds, d, s1, h, q⟩ := q
    cases ry
    obtain ⟨p1, vs1, rfl, _, h1, d1⟩ := R.lst rx s1
    obtain ⟨v, h2, h3⟩ := d1.atI h
    exact .inl ⟨_, _, _, v, rfl, rfl, SqL.of h1, h2, c.same R q h3⟩
  · obtain ⟨k, hl, h, q⟩ := q
    cases ry
    cases rx
    exact .inr (.inr ⟨_, _, k, rfl, rfl, small5 hl, h, c.same R q (.str _)⟩)
  · exact q.elim
theorem d_ix (h1 : PD X a ta t) (h2 : PD X b tb u) (hs : PlainIx b) : PD X (.Subscript a b pos) (tOp (rIx X.K) ta tb) (dOp rdIx t u) := ⟨pe_ix ix_seq h1.pe h2.pe hs, sim_op h1.sim h2.sim sim_ix⟩
abbrev DO := DEnv → Sto → (Option Int → Sto → Prop) → Prop
def SimO (K : PySem.W.Frag) (te : TO) (t : DO) : Prop := ∀ (σ : L2.St) (H : Hp) (m : Mp) (S : Sto) (δ : DEnv) (Q : Option Int → Hp → Prop) (Q' : Option Int → Sto → Prop),
  Rel K H m S → EnvR K H m σ δ → t δ S Q' → (∀ o S' H' m', Q' o S' → Kp H H' → Gr m m' → Rel K H' m' S' → Q o H') → te σ H Q
structure POD (X : Cx) (e : Option Expr) (te : TO) (t : DO) : Prop where
  pe : PO X e te
  sim : SimO X.K te t
@[simp] def dNoPart : DO := fun _ S Q => Q none S
@[simp] def dPart (t : DE) : DO := fun δ S Q => t δ S fun x S1 => ∃ i, x = .int i ∧ Q (some i) S1
theorem do_none : POD X none tNoPart dNoPart := ⟨po_none, fun σ H m S δ Q Q' R e q c => c none S H m q (.refl H) (.refl m) R⟩
theorem do_some (h : PD X a ta t) : POD X (some a) (tPart ta) (dPart t) := ⟨po_some h.pe, fun σ H m S δ Q Q' R e q c =>
  h.sim σ H m S δ _ _ R e q fun d S1 v H1 m1 ⟨i, ei, q1⟩ k1 g1 R1 r1 => by
    subst ei
    cases r1
    exact ⟨i, rfl, c _ S1 H1 m1 q1 k1 g1 R1⟩⟩
def cutD (ds : List D) (lo hi : Option Int) : List D := (ds.drop (HT.sIx ds.length 0 lo)).take (HT.sIx ds.length ds.length hi - HT.sIx ds.length 0 lo)
@[simp] def rdSl : D → Option Int → Option Int → Sto → DK → Prop := fun x lo hi S Q => match x with
  | .tup ds => Q (.tup (cutD ds lo hi)) S
  | .loc i => ∃ ds, S[i]? = some (.lst ds) ∧ Q (.loc S.length) (S ++ [.lst (cutD ds lo hi)])
  | .scr ns => Q (.loc S.length) (S ++ [.lst (cutD (ns.map .int) lo hi)])
  | _ => False
def vSl (K : PySem.W.Frag) : V → Option Int → Option Int → Hp → VK → Prop := fun x lo hi H Q => rSlA K x lo hi H Q ∨ rSlL K x lo hi H Q
@[simp] def dSl (t : DE) (l u : DO) : DE := fun δ S Q => t δ S fun x S1 => l δ S1 fun lo S2 => u δ S2 fun hi S3 => rdSl x lo hi S3 Q
theorem sim_sl {K : PySem.W.Frag} (H : Hp) (m : Mp) (S : Sto) (x : D) (lo hi : Option Int) (vx : V) (Q : VK) (Q' : DK) (R : Rel K H m S) (rx : Dv K H m vx x) (q : rdSl x lo hi S Q') (c : Cont K H m Q' Q) : vSl K vx lo hi H Q := by
  unfold rdSl at q
  split at q
  · cases rx with
    | tup s1 d1 =>
      refine .inl ⟨_, _, rfl, s1, fun ⟨e1, e2⟩ => ?_, fun _ => c.newT R (d1.cut lo hi) q⟩
      rw [d1.length] at e1 e2
      unfold cutD at q
      rw [e1, e2, List.drop_zero, Nat.sub_zero, List.take_length] at q
      exact c.same R q (.tup s1 d1)
  · obtain ⟨ds, s1, q⟩ := q
    obtain ⟨p1, vs1, rfl, _, h1, d1⟩ := R.lst rx s1
    exact .inr ⟨_, _, rfl, SqL.of h1, c.newL R (d1.cut lo hi) q⟩
  · cases rx with
    | scr s1 => exact .inr ⟨_, _, rfl, s1.sqL, c.newL R ((DvA.ints _).cut lo hi) q⟩
  · exact q.elim
theorem d_slice {lo hi : Option Expr} {tl th : TO} {dl dh : DO} {p2 : Pos} (h : PD X a ta t) (hl : POD X lo tl dl) (hh : POD X hi th dh) :
    PD X (.Subscript a (.Slice lo hi none p2) pos) (tSl (vSl X.K) ta tl th) (dSl t dl dh) := ⟨pe_slice (sl_tupA.or sl_list) h.pe hl.pe hh.pe, fun σ H m S δ Q Q' R e q c =>
  h.sim σ H m S δ _ _ R e q fun x S1 v H1 m1 q1 k1 g1 R1 r1 =>
    hl.sim σ H1 m1 S1 δ _ _ R1 (e.mono k1 g1) q1 fun o S2 H2 m2 q2 k2 g2 R2 =>
      hh.sim σ H2 m2 S2 δ _ _ R2 (e.mono (k1.trans k2) (g1.trans g2)) q2 fun o2 S3 H3 m3 q3 k3 g3 R3 =>
        sim_sl H3 m3 S3 x o o2 v Q Q' R3 (Dv.mono (k2.trans k3) (g2.trans g3) _ _ r1) q3 (c.mono ((k1.trans k2).trans k3) ((g1.trans g2).trans g3))⟩
@[simp] def dRevL (t : DE) : DE := fun δ S Q => t δ S fun x S1 => ∃ i ds, x = .loc i ∧ S1[i]? = some (.lst ds) ∧ Q (.loc S1.length) (S1 ++ [.lst ds.reverse])
theorem d_revL {k : Nat} {p1 p2 p3 : Pos} (h : PD X a ta t) : PD X (.Subscript a (.Slice none none (some (.UnaryOp .USub (.Constant (.int 1) k p1) p2)) p3) pos) (tRevL X.K ta) (dRevL t) := ⟨pe_revL h.pe, fun σ H m S δ Q Q' R e q c =>
  h.sim σ H m S δ _ _ R e q fun x S1 v H1 m1 ⟨i, ds, ei, s1, q1⟩ k1 g1 R1 r1 => by
    subst ei
    obtain ⟨p1, vs1, rfl, _, h1, d1⟩ := R1.lst r1 s1
    exact ⟨p1, vs1, rfl, SqL.of h1, (c.mono k1 g1).newL R1 d1.reverse q1⟩⟩
end

/-! ### calls of built-ins -/
section
variable {X : Cx} {pos p : Pos} {e : Expr} {es : List Expr} {ta : TA} {u : DA} {r r2 : List V → Hp → VK → Prop} {r' r2' : List D → Sto → DK → Prop} {x : Str} {f : Value}
theorem CallD.or (h : CallD X f r r') (h2 : CallD X f r2 r2') : CallD X f (fun xs H Q => r xs H Q ∨ r2 xs H Q) (fun xs S Q => r' xs S Q ∨ r2' xs S Q) :=
  ⟨h.op.or h2.op, fun H m S xs vs Q Q' R rx q c => q.elim (fun q => .inl (h.sim H m S xs vs Q Q' R rx q c)) fun q => .inr (h2.sim H m S xs vs Q Q' R rx q c)⟩
@[simp] def dCB (r' : List D → Sto → DK → Prop) (u : DA) : DE := fun δ S Q => u δ S fun ds S1 => r' ds S1 Q
theorem sim_cb {K : PySem.W.Frag} (h : SimA K ta u) (h2 : ∀ (H : Hp) (m : Mp) (S : Sto) (xs : List D) (vs : List V) (Q : VK) (Q' : DK), Rel K H m S → DvA K H m vs xs → r' xs S Q' → Cont K H m Q' Q → r vs H Q) : SimE K (tCB r ta) (dCB r' u) := fun σ H m S δ Q Q' R e q c =>
  h σ H m S δ _ _ R e q fun ds S1 vs H1 m1 q1 k1 g1 R1 r1 => h2 H1 m1 S1 ds vs Q Q' R1 r1 q1 (c.mono k1 g1)
theorem d_callB {id : String} (c : CallD X (.builtin id) r r') (hg : Gl X x) (hm : X.mg x = none) (hv : bootBuiltins x = some (.builtin id)) (ha : PAD X (e :: es) ta u) (hn : x ≠ "__name__" := by decide) (hdb : (x == ("__debug__" : Str)) = false := by decide)
    (he : starEach (e :: es) X.env = (false, eval e X.env) :: starEach es X.env := by rfl) (hpl : (backTo pos (starEach es X.env)).any (·.1) = false := by rfl) : PD X (.Call (.Name x p) (e :: es) [] pos) (tCB r ta) (dCB r' u) :=
  ⟨pe_callB c.op hg hm hv ha.pe hn hdb he hpl, sim_cb ha.sim c.sim⟩
theorem d_callTy {T : String} (c : CallD X (.type T) r r') (hg : Gl X x) (hm : X.mg x = none) (hv : bootBuiltins x = some (.type T)) (ha : PAD X (e :: es) ta u) (hn : x ≠ "__name__" := by decide) (hdb : (x == ("__debug__" : Str)) = false := by decide)
    (he : starEach (e :: es) X.env = (false, eval e X.env) :: starEach es X.env := by rfl) (hpl : (backTo pos (starEach es X.env)).any (·.1) = false := by rfl) : PD X (.Call (.Name x p) (e :: es) [] pos) (tCB r ta) (dCB r' u) :=
  ⟨pe_callTy c.op hg hm hv ha.pe hn hdb he hpl, sim_cb ha.sim c.sim⟩
/-- len -/
@[simp] def rdLen : List D → Sto → DK → Prop := fun xs S Q => match xs with
  | [.tup ds] => Q (.int ds.length) S
  | [.str z] => z.length ≤ 100000 ∧ Q (.int z.length) S
  | [.loc i] => ∃ ds, S[i]? = some (.lst ds) ∧ Q (.int ds.length) S
  | _ => False
def vLen (K : PySem.W.Frag) : List V → Hp → VK → Prop := fun xs H Q => (∃ p ys, xs = [.ref p] ∧ (SqL K H p ys ∨ SqT K H p ys) ∧ Q (.int ys.length) H) ∨ ∃ z, xs = [.str z] ∧ z.length ≤ sizeLine ∧ Q (.int z.length) H
theorem cd_len : CallD X (.builtin "len") (vLen X.K) rdLen := ⟨call_len_seq.or call_len_str, fun H m S xs vs Q Q' R rx q c => by
  unfold rdLen at q
  split at q
  · cases rx with
    | cons r1 r2 =>
      cases r2
      cases r1 with
      | tup s1 d1 => exact .inl ⟨_, _, rfl, .inr s1, by rw [d1.length]; exact c.same R q (.int _)⟩
  · obtain ⟨hz, q⟩ := q
    cases rx with
    | cons r1 r2 =>
      cases r2
      cases r1
      exact .inr ⟨_, rfl, small5 hz, c.same R q (.int _)⟩
  · obtain ⟨ds, s1, q⟩ := q
    cases rx with
    | cons r1 r2 =>
      cases r2
      obtain ⟨p1, vs1, rfl, _, h1, d1⟩ := R.lst r1 s1
      exact .inl ⟨_, _, rfl, .inl (SqL.of h1), by rw [d1.length]; exact c.same R q (.int _)⟩
  · exact q.elim⟩
theorem cd_abs : CallD X (.builtin "abs") (fun xs H Q => ∃ i, xs = [.int i] ∧ Q (.int (if i < 0 then -i else i)) H) (fun xs S Q => ∃ i, xs = [.int i] ∧ Q (.int (if i < 0 then -i else i)) S) := ⟨call_abs, fun H m S xs vs Q Q' R rx q c => by
  obtain ⟨i, rfl, q⟩ := q
  cases rx with
  | cons r1 r2 =>
    cases r2
    cases r1
    exact ⟨i, rfl, c.same R q (.int _)⟩⟩
@[simp] def rdInt : List D → Sto → DK → Prop := fun xs S Q => match xs with
  | [.int i] => Q (.int i) S
  | [.bl k] => Q (.int (if k then 1 else 0)) S
  | _ => False
theorem cd_int : CallD X (.type "int") (fun xs H Q => (∃ i, xs = [.int i] ∧ Q (.int i) H) ∨ ∃ k, xs = [.bl k] ∧ Q (.int (if k then 1 else 0)) H) rdInt := ⟨call_int1, fun H m S xs vs Q Q' R rx q c => by
  unfold rdInt at q
  split at q
  · cases rx with
    | cons r1 r2 =>
      cases r2
      cases r1
      exact .inl ⟨_, rfl, c.same R q (.int _)⟩
  · cases rx with
    | cons r1 r2 =>
      cases r2
      cases r1
      exact .inr ⟨_, rfl, c.same R q (.int _)⟩
  · exact q.elim⟩
theorem cd_sum (hc : X.calm = true) : CallD X (.builtin "sum") (rSum X.K) (fun xs S Q => ∃ i ns, xs = [.loc i] ∧ S[i]? = some (.lst (List.map D.int ns)) ∧ Q (.int ns.sum) S) := ⟨cr_sum hc, fun H m S xs vs Q Q' R rx q c => by
  obtain ⟨i, ns, rfl, s1, q⟩ := q
  cases rx with
  | cons r1 r2 =>
    cases r2
    obtain ⟨p1, vs1, rfl, _, h1, d1⟩ := R.lst r1 s1
    rw [d1.of_ints] at h1
    exact ⟨p1, ns, rfl, SqL.of h1, c.same R q (.int _)⟩⟩
theorem cd_all (hc : X.calm = true) : CallD X (.builtin "all") (rAll X.K) (fun xs S Q => ∃ i bs, xs = [.loc i] ∧ S[i]? = some (.lst (List.map D.bl bs)) ∧ Q (.bl (bs.all id)) S) := ⟨cr_all hc, fun H m S xs vs Q Q' R rx q c => by
  obtain ⟨i, ns, rfl, s1, q⟩ := q
  cases rx with
  | cons r1 r2 =>
    cases r2
    obtain ⟨p1, vs1, rfl, _, h1, d1⟩ := R.lst r1 s1
    rw [d1.of_bls] at h1
    exact ⟨p1, ns, rfl, SqL.of h1, c.same R q (.bl _)⟩⟩
def vTupleOf (K : PySem.W.Frag) : List V → Hp → VK → Prop := fun xs H Q => ∃ p ys, xs = [.ref p] ∧ ((SqL K H p ys ∧ ∀ l, H l = none → Q (.ref l) (upd H l (.tup ys))) ∨ (SqT K H p ys ∧ Q (.ref p) H))
@[simp] def rdTupleOf : List D → Sto → DK → Prop := fun xs S Q => match xs with
  | [.loc i] => ∃ ds, S[i]? = some (.lst ds) ∧ Q (.tup ds) S
  | [.tup ds] => Q (.tup ds) S
  | _ => False
theorem cd_tupleOf : CallD X (.type "tuple") (vTupleOf X.K) rdTupleOf := ⟨call_tuple_of, fun H m S xs vs Q Q' R rx q c => by
  unfold rdTupleOf at q
  split at q
  · obtain ⟨ds, s1, q⟩ := q
    cases rx with
    | cons r1 r2 =>
      cases r2
      obtain ⟨p1, vs1, rfl, _, h1, d1⟩ := R.lst r1 s1
      exact ⟨p1, vs1, rfl, .inl ⟨SqL.of h1, c.newT R d1 q⟩⟩
  · cases rx with
    | cons r1 r2 =>
      cases r2
      cases r1 with
      | tup s1 d1 => exact ⟨_, _, rfl, .inr ⟨s1, c.same R q (.tup s1 d1)⟩⟩
  · exact q.elim⟩
def vListOf (K : PySem.W.Frag) : List V → Hp → VK → Prop := fun xs H Q => ∃ p ys, xs = [.ref p] ∧ (SqL K H p ys ∨ SqT K H p ys) ∧ ∀ l, H l = none → Q (.ref l) (upd H l (.lst ys))
@[simp] def rdListOf : List D → Sto → DK → Prop := fun xs S Q => match xs with
  | [.loc i] => ∃ ds, S[i]? = some (.lst ds) ∧ Q (.loc S.length) (S ++ [.lst ds])
  | [.tup ds] => Q (.loc S.length) (S ++ [.lst ds])
  | _ => False
theorem cd_listOf : CallD X (.type "list") (vListOf X.K) rdListOf := ⟨call_list_of, fun H m S xs vs Q Q' R rx q c => by
  unfold rdListOf at q
  split at q
  · obtain ⟨ds, s1, q⟩ := q
    cases rx with
    | cons r1 r2 =>
      cases r2
      obtain ⟨p1, vs1, rfl, _, h1, d1⟩ := R.lst r1 s1
      exact ⟨p1, vs1, rfl, .inl (SqL.of h1), c.newL R d1 q⟩
  · cases rx with
    | cons r1 r2 =>
      cases r2
      cases r1 with
      | tup s1 d1 => exact ⟨_, _, rfl, .inr s1, c.newL R d1 q⟩
  · exact q.elim⟩
/-- repr -/
def vRepr (K : PySem.W.Frag) : List V → Hp → VK → Prop := fun xs H Q => ∃ x p, xs = [x] ∧ Dp K H x p ∧ p.showable = true ∧ p.hasDict = false ∧ p.shown.length ≤ sizeLine ∧ p.depth ≤ 60 ∧ Q (.str p.shown) H
theorem call_repr (hg : X.A.guards = some []) (hu : X.A.units + 64 < cLine) : CallR X (.builtin "repr") (vRepr X.K) := by
  intro pins s σ H xs us Q I r h
  obtain ⟨x, p, rfl, hd, hs, hn, hz, hp, q⟩ := h
  obtain ⟨u, rfl, r1⟩ := vals1 r
  obtain ⟨as, rd⟩ := Dp.reads I p x u hd r1
  have fin : ∀ (h' : Heap) (t : Tok) (tk : Nat), (∀ b o, s.heap.get? b = some o → h'.get? b = some o) → EP X pins σ Q (.str p.shown t) { s with heap := h', toks := tk } :=
    fun h' t tk hk => ⟨.str p.shown, H, I.kept hk, ⟨t, rfl⟩, q⟩
  cases p with
  | none =>
    cases rd
    have e : PyData.shown .none = ("None" : Str) := by simp [PyData.shown]
    rw [e] at fin
    exact PySem.P.repr_of_none (fin s.heap _ _ fun _ _ z => z)
  | bool b =>
    cases rd
    have e : PyData.shown (.bool b) = (if b then ("True" : Str) else ("False" : Str)) := by simp only [PyData.shown]
    rw [e] at fin
    exact PySem.P.repr_of_bool (fin s.heap _ _ fun _ _ z => z)
  | int i =>
    cases rd
    have e : PyData.shown (.int i) = ((toString i : String) : Str) := by simp only [PyData.shown]
    rw [e] at fin
    exact PySem.P.repr_of_int (by simpa only [PyData.showable, decide_eq_true_eq] using hs) (fin s.heap _ _ fun _ _ z => z)
  | str z =>
    cases rd
    have e : PyData.shown (.str z) = reprText z := by simp only [PyData.shown]
    rw [e] at fin hz
    exact PySem.P.repr_of_str (fin s.heap _ _ fun _ _ z => z) hz
  | list l =>
    cases rd with
    | list h1 h2 h3 h4 => exact repr_of_reads' (.list h1 h2 h3 h4) hs (PyData.noDict_hsm hn) hg (by omega) (fun _ _ z => z) (fun h' t tk hk => fin h' t tk hk) hz
  | tuple l =>
    cases rd with
    | tuple h1 h2 h3 h4 => exact repr_of_reads' (.tuple h1 h2 h3 h4) hs (PyData.noDict_hsm hn) hg (by omega) (fun _ _ z => z) (fun h' t tk hk => fin h' t tk hk) hz
  | dict l => cases hd
theorem cd_repr (hg : X.A.guards = some []) (hu : X.A.units + 64 < cLine) : CallD X (.builtin "repr") (vRepr X.K) (fun xs S Q => ∃ d p, xs = [d] ∧ PyOf S d p ∧ p.showable = true ∧ p.hasDict = false ∧ p.shown.length ≤ sizeLine ∧ p.depth ≤ 60 ∧ Q (.str p.shown) S) :=
  ⟨call_repr hg hu, fun H m S xs vs Q Q' R rx q c => by
    obtain ⟨d, p, rfl, h1, h2, h3, h4, h5, q⟩ := q
    cases rx with
    | cons r1 r2 =>
      cases r2
      exact ⟨_, p, rfl, dp_of R p d _ h1 r1, h2, h3, h4, h5, c.same R q (.str _)⟩⟩
/-- isinstance(x, T) -/
@[simp] def tyD (S : Sto) : D → String
  | .non => "NoneType" | .bl _ => "bool" | .int _ => "int" | .str _ => "str" | .tup _ => "tuple" | .scr _ => "list" | .exc _ _ _ => "none"
  | .loc i => match S[i]? with | some (.lst _) => "list" | some (.dct _) => "dict" | none => "none"
theorem ty_of {K : PySem.W.Frag} {H : Hp} {m : Mp} {S : Sto} {d : D} {v : V} (R : Rel K H m S) (r : Dv K H m v d) (hn : tyD S d ≠ "none") : TyX K H v (.type (tyD S d)) := by
  cases r with
  | non => exact .base .non
  | bl b => exact .base (.bl b)
  | int i => exact .base (.int i)
  | str x => exact .base (.str x)
  | tup s1 d1 =>
    rcases s1 with (h | ⟨o, h⟩) | ⟨o, its, n, h, hc, _⟩
    · exact .base (.tup h)
    · exact .fTuple h
    · exact .kTuple h hc
  | @loc i a e =>
    have hl : i < S.length := R.len ▸ (List.getElem?_eq_some_iff.mp e).1
    have hs : S[i]? = some S[i] := List.getElem?_eq_getElem hl
    have ob := R.ob i a _ e hs
    have et : tyD S (.loc i) = match S[i]? with | some (.lst _) => "list" | some (.dct _) => "dict" | none => "none" := rfl
    rw [et, hs]
    cases hS : S[i] with
    | lst ds =>
      rw [hS] at ob
      obtain ⟨vs, h, _⟩ := ob
      exact .base (.lst h)
    | dct kvs =>
      rw [hS] at ob
      obtain ⟨vs, h, _⟩ := ob
      exact .base (.dK h)
  | scr h =>
    rcases h with ⟨o, h⟩ | ⟨o, its, n, h, hc, _⟩
    · exact .base (.frz h)
    · exact .kList h hc
  | exc h r => exact absurd rfl hn
@[simp] def dIsi (T : String) (t : DE) : DE := fun δ S Q => t δ S fun d S1 => ∃ b, kitB (tyD S1 d) T = some b ∧ Q (.bl b) S1
theorem d_isi {a : Expr} {te : TE} {t : DE} {T : String} {x : Str} {pT : Pos} (hg : Gl X "isinstance") (hm : X.mg "isinstance" = none) (hv : bootBuiltins "isinstance" = some (.builtin "isinstance")) (h : PD X a te t)
    (hgT : Gl X x) (hmT : X.mg x = none) (hvT : bootBuiltins x = some (.type T)) (hnT : x ≠ "__name__" := by decide) (hdT : (x == ("__debug__" : Str)) = false := by decide)
    (he1 : starEach [a, .Name x pT] X.env = (false, eval a X.env) :: starEach [.Name x pT] X.env := by rfl) (he2 : starEach [.Name x pT] X.env = (false, eval (.Name x pT) X.env) :: starEach [] X.env := by rfl)
    (hpl : (backTo pos (starEach [.Name x pT] X.env)).any (·.1) = false := by rfl) (hT : kitB "none" T = none := by decide +kernel) :
    PD X (.Call (.Name "isinstance" p) [a, .Name x pT] [] pos) (tCB (rIsi X.K) (tCons te (tCons (tC (.ty T)) tNil))) (dIsi T t) :=
  ⟨pe_callB call_isi hg hm hv (pa_cons h.pe (pa_cons (pe_bltn hgT hmT hvT rfl hnT hdT) pa_nil he2) he1) (by decide) (by decide) he1 hpl, fun σ H m S δ Q Q' R e q c =>
    h.sim σ H m S δ _ _ R e q fun d S1 v H1 m1 ⟨b, hb, q1⟩ k1 g1 R1 r1 =>
      ⟨v, .ty T, .type (tyD S1 d), .type T, b, rfl, .ty T, ty_of R1 r1 (fun z => by rw [z, hT] at hb; cases hb), kit_ty hb, (c.mono k1 g1).same R1 q1 (.bl b)⟩⟩
end
end DL

set_option Elab.async false
set_option linter.all false
set_option maxRecDepth 100000
set_option maxHeartbeats 1000000
namespace DL
open PySem L2 PyProof.Rows

/-! ### a def's promise over data -/
abbrev DSp := List D → Sto → DK → Prop
def toSp (K : PySem.W.Frag) (c : DSp) : Sp := fun vs H Q _ => ∃ m S ds Q', Rel K H m S ∧ DvA K H m vs ds ∧ c ds S Q' ∧ Cont K H m Q' Q
/-- the def x of the module keeps c, by level k -/
structure DefD (P : Program) (w : World) (K : PySem.W.Frag) (mg : Str → Option Value) (base : Heap) (k : Nat) (x : Str) (n : Nat) (c : DSp) : Prop where
  ex : ∃ f fd ps, ps.length = n ∧ FnG P w K mg base CX0 k f fd ps (toSp K c) ∧ mg x = some (.ref f) ∧ PySem.W.keepIn K (.ref f) = true ∧ Binds K fd ps []
theorem DefD.mono {P : Program} {w : World} {K : PySem.W.Frag} {mg : Str → Option Value} {base : Heap} {j k n : Nat} {x : Str} {c : DSp} (F : DefD P w K mg base j x n c) (h : j ≤ k) : DefD P w K mg base k x n c :=
  let ⟨f, fd, ps, h1, h2, h3, h4, h5⟩ := F.ex
  ⟨f, fd, ps, h1, h2.mono h, h3, h4, h5⟩
theorem DefD.imp {P : Program} {w : World} {K : PySem.W.Frag} {mg : Str → Option Value} {base : Heap} {k n : Nat} {x : Str} {c c' : DSp} (F : DefD P w K mg base k x n c) (h : ∀ ds S Q, c' ds S Q → c ds S Q) : DefD P w K mg base k x n c' :=
  let ⟨f, fd, ps, h1, h2, h3, h4, h5⟩ := F.ex
  ⟨f, fd, ps, h1, h2.imp fun vs H Q E ⟨m, S, ds, Q', a, b, c, d⟩ => ⟨m, S, ds, Q', a, b, h _ _ _ c, d⟩, h3, h4, h5⟩
section
variable {X : Cx} {pos p : Pos} {e : Expr} {es : List Expr} {ta : TA} {u : DA} {x : Str} {k n : Nat} {c : DSp}
@[simp] def dCall (c : DSp) (u : DA) : DE := fun δ S Q => u δ S fun ds S1 => c ds S1 Q
theorem d_call (F : DefD X.prog X.w X.K X.mg X.base k x n c) (hgd : X.A.guards = some []) (hr : Room k X.A) (hg : Gl X x) (ha : PAD X (e :: es) ta u) (hdb : (x == ("__debug__" : Str)) = false := by decide)
    (he : starEach (e :: es) X.env = (false, eval e X.env) :: starEach es X.env := by rfl) (hpl : (backTo pos (starEach es X.env)).any (·.1) = false := by rfl) :
    PD X (.Call (.Name x p) (e :: es) [] pos) (tCall (toSp X.K c) [] E0 ta) (dCall c u) := by
  obtain ⟨f, fd, ps, h1, h2, h3, h4, h5⟩ := F.ex
  refine ⟨pe_callG h2 hgd hr hg h3 h4 h5 .nil pass0 ha.pe hdb he hpl, fun σ H m S δ Q Q' R e q c' => ?_⟩
  refine ha.sim σ H m S δ _ _ R e q fun ds S1 vs H1 m1 q1 k1 g1 R1 r1 => ?_
  rw [List.append_nil]
  exact ⟨m1, S1, ds, Q', R1, r1, q1, c'.mono k1 g1⟩
end

/-! ### methods of lists -/
section
variable {X : Cx} {pos p : Pos} {o e : Expr} {te ta : TE} {t u : DE}
theorem Cont.put {K : PySem.W.Frag} {H : Hp} {m : Mp} {S : Sto} {Q' : DK} {Q : VK} {i : Nat} {a : Addr} {xs vs : List V} {ds : List D} {d : D} {v : V} (c : Cont K H m Q' Q) (R : Rel K H m S) (e : m[i]? = some a) (h : H a = some (.lst xs)) (r : DvA K H m vs ds)
    (q : Q' d (S.set i (.lst ds))) (hv : Dv K H m v d) : Q v (upd H a (.lst vs)) := c d _ v _ m q (.put h) (.refl m) (R.put e h r) (Dv.mono (.put h) (.refl m) _ _ hv)
@[simp] def dApp (t u : DE) : DE := fun δ S Q => t δ S fun x S1 => ∃ i, x = .loc i ∧ (∃ ds, S1[i]? = some (.lst ds)) ∧ u δ S1 fun y S2 => ∃ ds, S2[i]? = some (.lst ds) ∧ ds.length < 100000 ∧ Q .non (S2.set i (.lst (ds ++ [y])))
theorem d_append {apos : Pos} (h : PD X o te t) (h2 : PD X e ta u) (hbase : attributeBase o "append" X.env (eval o X.env) = eval o X.env := by rfl)
    (hfew : ((backTo pos (starEach [e] X.env)).all (fun x => !x.1) && (backToKw pos (keywordEach [] X.env)).all (fun x => x.1.isSome) && decide (([e] : List Expr).length + ([] : List Keyword).length + (if ([] : List Keyword).isEmpty then 0 else 1) < 30)) = true := by rfl)
    (hline : (apos.endLine == pos.line) = true := by rfl) (hs : starEach [e] X.env = (false, eval e X.env) :: starEach [] X.env := by rfl) (hplain : (backTo pos (starEach [] X.env)).any (·.1) = false := by rfl) :
    PD X (.Call (.Attribute o "append" apos) [e] [] pos) (tBM X.K "list" rAppend te (tCons ta tNil)) (dApp t u) := ⟨pe_bm PySem.F.plainAttrs_list PySem.F.slot_list_append PySem.F.type_list_append mt_append h.pe (pa_cons h2.pe pa_nil hs) hbase hfew hline hs hplain, fun σ H m S δ Q Q' R ev q c =>
  h.sim σ H m S δ _ _ R ev q fun x S1 v H1 m1 ⟨i, ei, ⟨ds, s1⟩, q1⟩ k1 g1 R1 r1 => by
    subst ei
    obtain ⟨a, vs, rfl, em, hH, _⟩ := R1.lst r1 s1
    refine ⟨.inl ⟨rfl, vs, SqL.of hH⟩, h2.sim σ H1 m1 S1 δ _ _ R1 (ev.mono k1 g1) q1 fun y S2 vy H2 m2 ⟨ds2, s2, hl, q2⟩ k2 g2 R2 r2 => ?_⟩
    obtain ⟨a2, vs2, ea, em2, hH2, d2⟩ := R2.lst (.loc (g2.at em)) s2
    cases ea
    exact ⟨a, vs2, vy, rfl, rfl, hH2, by rw [d2.length]; exact small5' hl, (c.mono (k1.trans k2) (g1.trans g2)).put R2 em2 hH2 (d2.append (.cons r2 .nil)) q2 .non⟩⟩
@[simp] def dExt (t u : DE) : DE := fun δ S Q => t δ S fun x S1 => ∃ i, x = .loc i ∧ (∃ ds, S1[i]? = some (.lst ds)) ∧ u δ S1 fun y S2 => ∃ j ds es, y = .loc j ∧ S2[i]? = some (.lst ds) ∧ S2[j]? = some (.lst es) ∧ ds.length + es.length ≤ 100000 ∧ Q .non (S2.set i (.lst (ds ++ es)))
theorem d_extend {apos : Pos} (h : PD X o te t) (h2 : PD X e ta u) (hbase : attributeBase o "extend" X.env (eval o X.env) = eval o X.env := by rfl)
    (hfew : ((backTo pos (starEach [e] X.env)).all (fun x => !x.1) && (backToKw pos (keywordEach [] X.env)).all (fun x => x.1.isSome) && decide (([e] : List Expr).length + ([] : List Keyword).length + (if ([] : List Keyword).isEmpty then 0 else 1) < 30)) = true := by rfl)
    (hline : (apos.endLine == pos.line) = true := by rfl) (hs : starEach [e] X.env = (false, eval e X.env) :: starEach [] X.env := by rfl) (hplain : (backTo pos (starEach [] X.env)).any (·.1) = false := by rfl) :
    PD X (.Call (.Attribute o "extend" apos) [e] [] pos) (tBM X.K "list" rExtend te (tCons ta tNil)) (dExt t u) := ⟨pe_bm PySem.F.plainAttrs_list PySem.F.slot_list_extend PySem.F.type_list_extend mt_extend h.pe (pa_cons h2.pe pa_nil hs) hbase hfew hline hs hplain, fun σ H m S δ Q Q' R ev q c =>
  h.sim σ H m S δ _ _ R ev q fun x S1 v H1 m1 ⟨i, ei, ⟨ds, s1⟩, q1⟩ k1 g1 R1 r1 => by
    subst ei
    obtain ⟨a, vs, rfl, em, hH, _⟩ := R1.lst r1 s1
    refine ⟨.inl ⟨rfl, vs, SqL.of hH⟩, h2.sim σ H1 m1 S1 δ _ _ R1 (ev.mono k1 g1) q1 fun y S2 vy H2 m2 ⟨j, ds2, es2, ej, s2, s3, hl, q2⟩ k2 g2 R2 r2 => ?_⟩
    subst ej
    obtain ⟨a2, vs2, ea, em2, hH2, d2⟩ := R2.lst (.loc (g2.at em)) s2
    cases ea
    obtain ⟨a3, vs3, rfl, em3, hH3, d3⟩ := R2.lst r2 s3
    exact ⟨a, a3, vs2, vs3, rfl, rfl, hH2, hH3, by rw [d2.length, d3.length]; exact small5 hl, (c.mono (k1.trans k2) (g1.trans g2)).put R2 em2 hH2 (d2.append d3) q2 .non⟩⟩
@[simp] def dPop (t : DE) : DE := fun δ S Q => t δ S fun x S1 => ∃ i ds d, x = .loc i ∧ S1[i]? = some (.lst ds) ∧ ds[ds.length - 1]? = some d ∧ Q d (S1.set i (.lst ds.dropLast))
theorem d_pop {apos : Pos} (h : PD X o te t) (hbase : attributeBase o "pop" X.env (eval o X.env) = eval o X.env := by rfl) (hline : (apos.endLine == pos.line) = true := by rfl) :
    PD X (.Call (.Attribute o "pop" apos) [] [] pos) (tBM0 X.K "list" rPop te) (dPop t) := ⟨pe_bm0 PySem.F.plainAttrs_list PySem.F.slot_list_pop PySem.F.type_list_pop mt_pop h.pe hbase hline, fun σ H m S δ Q Q' R ev q c =>
  h.sim σ H m S δ _ _ R ev q fun x S1 v H1 m1 ⟨i, ds, d, ei, s1, hd, q1⟩ k1 g1 R1 r1 => by
    subst ei
    obtain ⟨a, vs, rfl, em, hH, d1⟩ := R1.lst r1 s1
    obtain ⟨w, hw, rw'⟩ := d1.get hd
    rw [← d1.length] at hw
    exact ⟨.inl ⟨rfl, vs, SqL.of hH⟩, a, vs, w, rfl, rfl, hH, hw, (c.mono k1 g1).put R1 em hH d1.dropLast q1 rw'⟩⟩
end

/-! ### statements -/
structure DEnds where
  nx : DEnv → Sto → Prop
  rt : DK
  bk : DEnv → Sto → Prop := fun _ _ => False
  ct : DEnv → Sto → Prop := fun _ _ => False
abbrev DS := DEnds → DEnv → Sto → Prop
def ContS (K : PySem.W.Frag) (H : Hp) (m : Mp) (Q' : DEnv → Sto → Prop) (Q : L2.St → Hp → Prop) : Prop :=
  ∀ δ' S' σ' H' m', Q' δ' S' → Kp H H' → Gr m m' → Rel K H' m' S' → EnvR K H' m' σ' δ' → Q σ' H'
theorem ContS.mono {K : PySem.W.Frag} {H H' : Hp} {m m' : Mp} {Q' : DEnv → Sto → Prop} {Q : L2.St → Hp → Prop} (k : Kp H H') (g : Gr m m') (c : ContS K H m Q' Q) : ContS K H' m' Q' Q := fun δ S' σ H2 m2 q k2 g2 R r => c δ S' σ H2 m2 q (k.trans k2) (g.trans g2) R r
structure EndsR (K : PySem.W.Frag) (H : Hp) (m : Mp) (D' : DEnds) (D : Ends) : Prop where
  nx : ContS K H m D'.nx D.nx
  rt : Cont K H m D'.rt D.rt
  bk : ContS K H m D'.bk D.bk
  ct : ContS K H m D'.ct D.ct
theorem EndsR.mono {K : PySem.W.Frag} {H H' : Hp} {m m' : Mp} {D' : DEnds} {D : Ends} (k : Kp H H') (g : Gr m m') (c : EndsR K H m D' D) : EndsR K H' m' D' D := ⟨c.nx.mono k g, c.rt.mono k g, c.bk.mono k g, c.ct.mono k g⟩
def SimS (K : PySem.W.Frag) (ts : TS) (t : DS) : Prop := ∀ (σ : L2.St) (H : Hp) (m : Mp) (S : Sto) (δ : DEnv) (D : Ends) (D' : DEnds), Rel K H m S → EnvR K H m σ δ → t D' δ S → EndsR K H m D' D → ts D σ H
structure PSD (X : Cx) (st : Stmt) (ts : TS) (t : DS) : Prop where
  pe : PS X st ts
  sim : SimS X.K ts t
structure PSsD (X : Cx) (st : List Stmt) (ts : TS) (t : DS) : Prop where
  pe : PSs X st ts
  sim : SimS X.K ts t
abbrev DG := D → DEnv → Sto → (DEnv → Sto → Prop) → Prop
def SimG (K : PySem.W.Frag) (g : TG) (g' : DG) : Prop := ∀ (σ : L2.St) (H : Hp) (m : Mp) (S : Sto) (δ : DEnv) (x : D) (v : V) (Q : L2.St → Hp → Prop) (Q' : DEnv → Sto → Prop), Rel K H m S → EnvR K H m σ δ → Dv K H m v x → g' x δ S Q' → ContS K H m Q' Q → g v σ H Q
structure PGD (X : Cx) (tg : Expr) (g : TG) (g' : DG) : Prop where
  pe : PG X tg g
  sim : SimG X.K g g'
section
variable {X : Cx} {st : Stmt} {rest a b : List Stmt} {ts us : TS} {t u : DS} {e : Expr} {te : TE} {de : DE} {pos : Pos}
@[simp] def sNext : DS := fun D δ S => D.nx δ S
@[simp] def sSeq (t u : DS) : DS := fun D δ S => t { D with nx := u D } δ S
theorem s_nil : PSsD X [] tNext sNext := ⟨pss_nil, fun σ H m S δ D D' R e q c => c.nx δ S σ H m q (.refl H) (.refl m) R e⟩
theorem s_cons (h1 : PSD X st ts t) (h2 : PSsD X rest us u) : PSsD X (st :: rest) (tSeq ts us) (sSeq t u) := ⟨pss_cons h1.pe h2.pe, fun σ H m S δ D D' R e q c =>
  h1.sim σ H m S δ _ _ R e q ⟨fun δ' S' σ' H' m' q' k g R' e' => h2.sim σ' H' m' S' δ' D D' R' e' q' (c.mono k g), c.rt, c.bk, c.ct⟩⟩
theorem s_one (h1 : PSD X st ts t) : PSsD X [st] ts t := ⟨pss_one h1.pe, h1.sim⟩
@[simp] def sBreak : DS := fun D δ S => D.bk δ S
@[simp] def sCont : DS := fun D δ S => D.ct δ S
theorem s_break : PSD X (.Break pos) tBreak sBreak := ⟨ps_break, fun σ H m S δ D D' R e q c => c.bk δ S σ H m q (.refl H) (.refl m) R e⟩
theorem s_continue : PSD X (.Continue pos) tCont sCont := ⟨ps_continue, fun σ H m S δ D D' R e q c => c.ct δ S σ H m q (.refl H) (.refl m) R e⟩
theorem s_pass : PSD X (.Pass pos) tNext sNext := ⟨ps_pass, fun σ H m S δ D D' R e q c => c.nx δ S σ H m q (.refl H) (.refl m) R e⟩
@[simp] def sDrop (t : DE) : DS := fun D δ S => t δ S fun _ S1 => D.nx δ S1
theorem s_expr (h : PD X e te de) (hs : swapsWith e none pos.line X.env = pure false := by rfl) : PSD X (.Expr e pos) (tDrop te) (sDrop de) := ⟨ps_expr h.pe hs, fun σ H m S δ D D' R ev q c =>
  h.sim σ H m S δ _ _ R ev q fun d S1 v H1 m1 q1 k1 g1 R1 r1 => c.nx δ S1 σ H1 m1 q1 k1 g1 R1 (ev.mono k1 g1)⟩
@[simp] def sRet (t : DE) : DS := fun D δ S => t δ S D.rt
theorem s_ret (h : PD X e te de) : PSD X (.Return (some e) pos) (tRet te) (sRet de) := ⟨ps_ret h.pe, fun σ H m S δ D D' R ev q c => h.sim σ H m S δ _ _ R ev q c.rt⟩
@[simp] def sIf (c : DT) (t u : DS) : DS := fun D δ S => c δ S fun k S1 => if k = true then t D δ S1 else u D δ S1
theorem s_if {c : Expr} {tc : TT} {dc : DT} (hc : PTD X c tc dc) (ha : PSsD X a ts t) (hb : PSsD X b us u) : PSD X (.If c a b pos) (tIfS tc ts us) (sIf dc t u) := ⟨ps_if hc.pe ha.pe hb.pe, fun σ H m S δ D D' R ev q c =>
  hc.sim σ H m S δ _ _ R ev q fun k S1 H1 m1 q1 k1 g1 R1 => by
    cases k with
    | true => exact ha.sim σ H1 m1 S1 δ D D' R1 (ev.mono k1 g1) q1 (c.mono k1 g1)
    | false => exact hb.sim σ H1 m1 S1 δ D D' R1 (ev.mono k1 g1) q1 (c.mono k1 g1)⟩
/-- targets -/
@[simp] def gdName (i : Nat) : DG := fun x δ S Q => Q (δ.set i (some x)) S
theorem sim_gName {K : PySem.W.Frag} {i : Nat} : SimG K (gName i) (gdName i) := fun σ H m S δ x v Q Q' R e r q c => c _ S _ H m q (.refl H) (.refl m) R (e.set i r)
theorem g_name {i : Nat} {x : Str} (hN : X.N.Nodup) (hi : X.N[i]? = some x) (hx : Loc X.env.scope x) (hf : X.fn x = true ∨ X.env.scope.names.lookup x = some .local) : PGD X (.Name x pos) (gName i) (gdName i) := ⟨pg_name hN hi hx hf, sim_gName⟩
/-- (a, b) = a tuple of two -/
@[simp] def gd2 (g h : DG) : DG := fun x δ S Q => match x with | .tup [d1, d2] => g d1 δ S fun δ1 S1 => h d2 δ1 S1 Q | _ => False
theorem g_two {e1 e2 : Expr} {k : Nat} {g h : TG} {g' h' : DG} (hc : X.calm = true) (h1 : PGD X e1 g g') (h2 : PGD X e2 h h') (hs1 : (assignEach [e1, e2] X.env).map (·.2) = assign e1 X.env :: (assignEach [e2] X.env).map (·.2) := by rfl)
    (hs2 : (assignEach [e2] X.env).map (·.2) = assign e2 X.env :: (assignEach [] X.env).map (·.2) := by rfl) (hn : (assignEach [e1, e2] X.env).length = 2 := by rfl) (hst : (assignEach [e1, e2] X.env).findIdx? (·.1) = none := by rfl) :
    PGD X (.Tuple [e1, e2] k pos) (gTup X.K 2 (gCons g (gCons h gNil))) (gd2 g' h') := ⟨pg_tup hc (pgs_cons h1.pe (pgs_cons h2.pe pgs_nil hs2) hs1) hn hst, fun σ H m S δ x v Q Q' R e r q c => by
  unfold gd2 at q
  split at q
  case h_2 => exact q.elim
  rename_i d1 d2
  cases r with
  | tup s r =>
    cases r with
    | cons r1 r2 =>
      cases r2 with
      | cons r2 r3 =>
        cases r3
        refine ⟨_, _, rfl, s, rfl, _, _, rfl, h1.sim σ H m S δ d1 _ _ _ R e r1 q ?_⟩
        intro δ1 S1 σ1 H1 m1 q1 k1 g1 R1 e1
        refine ⟨_, _, rfl, h2.sim σ1 H1 m1 S1 δ1 d2 _ _ _ R1 e1 (Dv.mono k1 g1 _ _ r2) q1 ?_⟩
        intro δ2 S2 σ2 H2 m2 q2 k2 g2 R2 e2
        exact ⟨rfl, c δ2 S2 σ2 H2 m2 q2 (k1.trans k2) (g1.trans g2) R2 e2⟩⟩
/-- o[i] = .. of a list -/
@[simp] def gdSub (to ti : DE) : DG := fun x δ S Q => to δ S fun o S1 => ti δ S1 fun i S2 => ∃ l k ds j, o = .loc l ∧ i = .int k ∧ S2[l]? = some (.lst ds) ∧ ixN ds.length k = some j ∧ Q δ (S2.set l (.lst (ds.set j x)))
theorem g_sub {o i : Expr} {to ti : TE} {d1 d2 : DE} (ho : PD X o to d1) (hi : PD X i ti d2)
    (ha : ∀ v, assign (.Subscript o i pos) X.env v = (do
      let ov ← holding [v] (eval o X.env)
      let iv ← holding [v, ov] (eval i X.env)
      standAt pos
      holding [v, ov, iv] (setItem ov iv v)
      release [v, ov, iv] []) := by intro _; rfl) : PGD X (.Subscript o i pos) (gSub to ti rSetL) (gdSub d1 d2) := ⟨pg_sub ho.pe hi.pe set_list ha, fun σ H m S δ x v Q Q' R e r q c => by
  refine ho.sim σ H m S δ _ _ R e q ?_
  intro do_ S1 vo H1 m1 q1 k1 g1 R1 r1
  refine hi.sim σ H1 m1 S1 δ _ _ R1 (e.mono k1 g1) q1 ?_
  intro di S2 vi H2 m2 q2 k2 g2 R2 r2
  obtain ⟨l, k, ds, j, rfl, rfl, s2, hj, q2⟩ := q2
  cases r2
  obtain ⟨a, vs, rfl, em, hH, d2⟩ := R2.lst (Dv.mono k2 g2 _ _ r1) s2
  have kk := (k1.trans k2)
  refine ⟨a, vs, k, j, rfl, rfl, hH, by rw [d2.length]; exact hj, ?_⟩
  have r' := Dv.mono kk (g1.trans g2) _ _ r
  exact c δ _ σ _ m2 q2 (kk.trans (.put hH)) (g1.trans g2) (R2.put em hH (d2.set r' j)) ((e.mono kk (g1.trans g2)).mono (.put hH) (.refl m2))⟩
@[simp] def sAsg (t : DE) (g : DG) : DS := fun D δ S => t δ S fun x S1 => g x δ S1 D.nx
theorem sim_asg {K : PySem.W.Frag} {g : TG} {g' : DG} (h : SimE K te de) (hg : SimG K g g') : SimS K (tAsg te g) (sAsg de g') := fun σ H m S δ D D' R ev q c =>
  h σ H m S δ _ _ R ev q fun d S1 v H1 m1 q1 k1 g1 R1 r1 => hg σ H1 m1 S1 δ d v _ _ R1 (ev.mono k1 g1) r1 q1 (c.nx.mono k1 g1)
theorem s_asg {tg : Expr} {g : TG} {g' : DG} (he : PD X e te de) (hg : PGD X tg g g') (hs : swapsWithSole [tg] e pos.line X.env = pure false := by rfl) (hw : swappedStores [tg] e X.env = pure none := by rfl)
    (h1 : (assignEach [tg] X.env).map (·.2) = [assign tg X.env] := by rfl) : PSD X (.Assign [tg] e pos) (tAsg te g) (sAsg de g') := ⟨ps_asg he.pe hg.pe hs hw h1, sim_asg he.sim hg.sim⟩
theorem s_set {i : Nat} {x : Str} {pos' : Pos} (hN : X.N.Nodup) (hi : X.N[i]? = some x) (hx : Loc X.env.scope x) (hf : X.fn x = true ∨ X.env.scope.names.lookup x = some .local) (he : PD X e te de) (hs : swapsWith e (some (.Name x pos')) pos.line X.env = pure false := by rfl) :
    PSD X (.Assign [.Name x pos'] e pos) (tAsg te (gName i)) (sAsg de (gdName i)) := ⟨ps_set hN hi hx he.pe hs hf, sim_asg he.sim sim_gName⟩
/-- a, b = x, y -/
@[simp] def sPar (i j : Nat) (u : DA) : DS := fun D δ S => u δ S fun ds S1 => match ds with | [d1, d2] => D.nx ((δ.set i (some d1)).set j (some d2)) S1 | _ => False
theorem s_par {i j : Nat} {x y : Str} {a b : Expr} {ta : TA} {u : DA} {px py pt : Pos} {kt k2 pt2} (hc : X.calm = true) (hN : X.N.Nodup) (hi : X.N[i]? = some x) (hj : X.N[j]? = some y) (hij : i ≠ j)
    (hx : X.env.scope.names.lookup x = some .local) (hy : X.env.scope.names.lookup y = some .local) (ha : PAD X [a, b] ta u)
    (hw : swappedStores [.Tuple [.Name x px, .Name y py] kt pt] (.Tuple [a, b] k2 pt2) X.env = pure (some [x, y]) := by rfl)
    (hs : swapsWithSole [.Tuple [.Name x px, .Name y py] kt pt] (.Tuple [a, b] k2 pt2) pos.line X.env = pure false := by rfl) :
    PSD X (.Assign [.Tuple [.Name x px, .Name y py] kt pt] (.Tuple [a, b] k2 pt2) pos) (tPar i j ta) (sPar i j u) := ⟨ps_par hc hN hi hj hij hx hy ha.pe hw hs, fun σ H m S δ D D' R ev q c =>
  ha.sim σ H m S δ _ _ R ev q fun ds S1 vs H1 m1 q1 k1 g1 R1 r1 => by
    split at q1
    case h_2 => exact q1.elim
    cases r1 with
    | cons r1 r2 =>
      cases r2 with
      | cons r2 r3 =>
        cases r3
        exact ⟨_, _, rfl, c.nx _ S1 _ H1 m1 q1 k1 g1 R1 (((ev.mono k1 g1).set i r1).set j r2)⟩⟩
/-- name += e, ints -/
@[simp] def sAugI (i : Nat) (f : Int → Int → Int) (t : DE) : DS := fun D δ S => ∃ n, δ[i]? = some (some (.int n)) ∧ t δ S fun d S1 => ∃ k, d = .int k ∧ D.nx (δ.set i (some (.int (f n k)))) S1
theorem s_augI {i : Nat} {x : Str} {op : Operator} {f : Int → Int → Int} {pos' : Pos} (hN : X.N.Nodup) (hi : X.N[i]? = some x) (hx : Loc X.env.scope x) (hf : X.fn x = true ∨ X.env.scope.names.lookup x = some .local) (he : PD X e te de) (ho : PIp X op (ipI f)) :
    PSD X (.AugAssign (.Name x pos') op e pos) (tAug i te (ipI f)) (sAugI i f de) := ⟨ps_aug hN hi hx he.pe ho hf, fun σ H m S δ D D' R ev ⟨n, en, q⟩ c => by
  obtain ⟨v, h1, h2⟩ := ev.at_ i _ en
  cases h2
  refine ⟨_, h1, he.sim σ H m S δ _ _ R ev q ?_⟩
  intro d S1 v1 H1 m1 q1 k1 g1 R1 r1
  obtain ⟨k, rfl, q1⟩ := q1
  cases r1
  exact ⟨n, k, rfl, rfl, c.nx _ S1 _ H1 m1 q1 k1 g1 R1 ((ev.mono k1 g1).set i (.int _))⟩⟩
end
end DL

set_option Elab.async false
set_option linter.all false
set_option maxRecDepth 100000
set_option maxHeartbeats 1000000
namespace DL
open PySem L2 PyProof.Rows

/-! ### what is walked -/
structure ItOk (K : PySem.W.Frag) (H0 : Hp) (m0 : Mp) (items : List D) (st : Sto → Prop) (J : It) : Prop where
  go : ∀ (i : Nat) (H : Hp) (m : Mp) (S : Sto), Kp H0 H → Gr m0 m → Rel K H m S → st S → i < items.length → J.go i H
  yld : ∀ (i : Nat) (H : Hp) (m : Mp) (S : Sto) (x : V) (H' : Hp), Kp H0 H → Gr m0 m → Rel K H m S → st S → i < items.length → J.yld i H x H' → ∃ d, items[i]? = some d ∧ Kp H H' ∧ Rel K H' m S ∧ Dv K H' m x d
  stop : ∀ (i : Nat) (H : Hp) (m : Mp) (S : Sto), Kp H0 H → Gr m0 m → Rel K H m S → st S → items.length ≤ i → J.stop i H
abbrev DI := DEnv → Sto → (List D → (Sto → Prop) → Sto → Prop) → Prop
def SimI (K : PySem.W.Frag) (wi : TI) (di : DI) : Prop := ∀ (σ : L2.St) (H : Hp) (m : Mp) (S : Sto) (δ : DEnv) (R : It → Hp → Prop) (R' : List D → (Sto → Prop) → Sto → Prop),
  Rel K H m S → EnvR K H m σ δ → di δ S R' → (∀ items st S' H' m' J, R' items st S' → Kp H H' → Gr m m' → Rel K H' m' S' → ItOk K H' m' items st J → R J H') → wi σ H R
structure PID (X : Cx) (tg iter : Expr) (wi : TI) (di : DI) : Prop where
  pe : PI X tg iter wi
  sim : SimI X.K wi di
section
variable {X : Cx} {tg l : Expr} {te : TE} {de : DE} {pos p : Pos}
theorem it_tup {K : PySem.W.Frag} {H : Hp} {m : Mp} {a : Addr} {vs : List V} {ds : List D} (s : SqT K H a vs) (r : DvA K H m vs ds) : ItOk K H m ds (fun _ => True) (Itt K a) where
  go := fun i H' m' S k g R _ hi => ⟨vs, vs[i]'(by rw [r.length]; exact hi), k.sqT s, List.getElem?_eq_getElem _⟩
  yld := fun i H' m' S x H2 k g R _ hi ⟨e, y⟩ => by
    subst e
    obtain ⟨d, h1, h2⟩ := r.getV (y vs (k.sqT s))
    exact ⟨d, h1, .refl _, R, Dv.mono k g _ _ h2⟩
  stop := fun i H' m' S k g R _ hi => ⟨vs, k.sqT s, by rw [r.length]; exact hi⟩
theorem it_lst {K : PySem.W.Frag} {H : Hp} {m : Mp} {a : Addr} {j : Nat} {ds : List D} (e : m[j]? = some a) : ItOk K H m ds (fun S => S[j]? = some (.lst ds)) (Itl K a) where
  go := fun i H' m' S k g R hs hi => by
    obtain ⟨vs, h, r⟩ := R.ob j a _ (g.at e) hs
    exact ⟨vs, vs[i]'(by rw [r.length]; exact hi), SqL.of h, List.getElem?_eq_getElem _⟩
  yld := fun i H' m' S x H2 k g R hs hi ⟨e2, y⟩ => by
    subst e2
    obtain ⟨vs, h, r⟩ := R.ob j a _ (g.at e) hs
    obtain ⟨d, h1, h2⟩ := r.getV (y vs (SqL.of h))
    exact ⟨d, h1, .refl _, R, h2⟩
  stop := fun i H' m' S k g R hs hi => by
    obtain ⟨vs, h, r⟩ := R.ob j a _ (g.at e) hs
    exact ⟨vs, SqL.of h, by rw [r.length]; exact hi⟩
def signsD (z : Str) : List D := z.cps.toList.map fun c => .str ⟨#[c]⟩
theorem it_str {K : PySem.W.Frag} {H : Hp} {m : Mp} (z : Str) : ItOk K H m (signsD z) (fun _ => True) (Its z) where
  go := fun i H' m' S k g R _ hi => by
    unfold signsD at hi
    rw [List.length_map, Array.length_toList] at hi
    exact hi
  yld := fun i H' m' S x H2 k g R _ hi ⟨e, c, hc, ex⟩ => by
    subst e ex
    refine ⟨.str ⟨#[c]⟩, ?_, .refl _, R, .str _⟩
    unfold signsD
    rw [List.getElem?_map, Array.getElem?_toList, hc]
    rfl
  stop := fun i H' m' S k g R _ hi => by
    unfold signsD at hi
    rw [List.length_map, Array.length_toList] at hi
    exact hi
def rangeD (lo : Int) (n : Nat) : List D := (List.range n).map fun i => .int (lo + (i : Nat))
theorem it_rng {K : PySem.W.Frag} {H : Hp} {m : Mp} (lo : Int) (n : Nat) : ItOk K H m (rangeD lo n) (fun _ => True) (Itr lo n) where
  go := fun i H' m' S k g R _ hi => by
    unfold rangeD at hi
    rw [List.length_map, List.length_range] at hi
    exact hi
  yld := fun i H' m' S x H2 k g R _ hi ⟨e, ex⟩ => by
    subst e ex
    unfold rangeD at hi ⊢
    rw [List.length_map, List.length_range] at hi
    refine ⟨.int (lo + i), ?_, .refl _, R, .int _⟩
    rw [List.getElem?_map, List.getElem?_range hi]
    rfl
  stop := fun i H' m' S k g R _ hi => by
    unfold rangeD at hi
    rw [List.length_map, List.length_range] at hi
    exact hi
/-- a tuple, a list or a text, by its value -/
def iAny (K : PySem.W.Frag) (tl : TE) : TI := fun σ H R => tl σ H fun x H1 => (∃ a xs, x = .ref a ∧ SqT K H1 a xs ∧ R (Itt K a) H1) ∨ (∃ a xs, x = .ref a ∧ SqL K H1 a xs ∧ R (Itl K a) H1) ∨ ∃ z, x = .str z ∧ R (Its z) H1
theorem pi_any (hl : PE X l te) : PI X tg l (iAny X.K te) := by
  constructor
  intro pins s σ H R I h
  refine thn (hl.run pins s σ H _ I h) ?_
  rintro v s1 ⟨x, H1, I1, r1, ⟨a, xs, rfl, hq, q⟩ | ⟨a, xs, rfl, hq, q⟩ | ⟨z, rfl, q⟩⟩
  · cases r1
    obtain ⟨its, rv, p, hz⟩ := I1.tuple hq
    exact wpAny_pyIter_tuple (show s1.heap.IsTuple a its.toArray from p)
      (pi_one (tk := s1.toks) I1 _ (turn_tuple a _) ⟨_, Heap.get?_push_size _ rfl, rfl, rfl⟩ q)
  · cases r1
    obtain ⟨its, rv, p, hz⟩ := I1.list hq
    exact wpAny_pyIter_list p.isList (pi_one (tk := s1.toks) I1 _ (turn_list a _) ⟨_, Heap.get?_push_size _ rfl, rfl, rfl⟩ q)
  · obtain ⟨t, rfl⟩ := r1
    cases ha : z.cps.all (· < 128)
    · exact wpAny_pyIter_wide ha (pi_one (tk := s1.toks) I1 _ (turn_str _ z t "str_iterator" (.inr rfl)) ⟨_, Heap.get?_push_size _ rfl, rfl, rfl⟩ q)
    · exact wpAny_pyIter_ascii ha (pi_one (tk := s1.toks) I1 _ (turn_str _ z t "str_ascii_iterator" (.inl rfl)) ⟨_, Heap.get?_push_size _ rfl, rfl, rfl⟩ q)
@[simp] def diAny (t : DE) : DI := fun δ S R => t δ S fun d S1 => match d with
  | .tup ds => R ds (fun _ => True) S1
  | .str z => R (signsD z) (fun _ => True) S1
  | .loc j => ∃ ds, S1[j]? = some (.lst ds) ∧ R ds (fun S => S[j]? = some (.lst ds)) S1
  | _ => False
theorem i_any (h : PD X l te de) : PID X tg l (iAny X.K te) (diAny de) := ⟨pi_any h.pe, fun σ H m S δ R R' Rl e q c =>
  h.sim σ H m S δ _ _ Rl e q fun d S1 v H1 m1 q1 k1 g1 R1 r1 => by
    cases d with
    | tup ds =>
      cases r1 with
      | tup s d1 => exact .inl ⟨_, _, rfl, s, c _ _ S1 H1 m1 _ q1 k1 g1 R1 (it_tup s d1)⟩
    | str z =>
      cases r1
      exact .inr (.inr ⟨z, rfl, c _ _ S1 H1 m1 _ q1 k1 g1 R1 (it_str z)⟩)
    | loc j =>
      obtain ⟨ds, s1, q1⟩ := q1
      obtain ⟨a, vs, rfl, em, hH, d1⟩ := R1.lst r1 s1
      exact .inr (.inl ⟨a, vs, rfl, SqL.of hH, c _ _ S1 H1 m1 _ q1 k1 g1 R1 (it_lst em)⟩)
    | _ => exact (q1 : False).elim⟩
@[simp] def diRng1 (u : DA) : DI := fun δ S R => u δ S fun ds S1 => ∃ j : Int, ds = [.int j] ∧ -1000000 ≤ j ∧ j ≤ 1000000 ∧ R (rangeD 0 j.toNat) (fun _ => True) S1
theorem i_rng1 {a : Expr} {ta : TA} {u : DA} (hg : Gl X "range") (hm : X.mg "range" = none) (ha : PAD X [a] ta u) (hs : starEach [a] X.env = [(false, eval a X.env)] := by rfl) : PID X tg (.Call (.Name "range" p) [a] [] pos) (iRng1 ta) (diRng1 u) :=
  ⟨pi_range1 hg hm ha.pe hs, fun σ H m S δ R R' Rl e q c => ha.sim σ H m S δ _ _ Rl e q fun ds S1 vs H1 m1 ⟨j, ej, h1, h2, q1⟩ k1 g1 R1 r1 => by
    subst ej
    cases r1 with
    | cons r1 r2 =>
      cases r2
      cases r1
      exact ⟨j, rfl, by omega, by omega, c _ _ S1 H1 m1 _ q1 k1 g1 R1 (it_rng 0 _)⟩⟩
@[simp] def diRng2 (u : DA) : DI := fun δ S R => u δ S fun ds S1 => match ds with | [.int i, .int j] => -1000000 ≤ i ∧ i ≤ 1000000 ∧ -1000000 ≤ j ∧ j ≤ 1000000 ∧ R (rangeD i (j - i).toNat) (fun _ => True) S1 | _ => False
theorem i_rng2 {a b : Expr} {ta : TA} {u : DA} (hg : Gl X "range") (hm : X.mg "range" = none) (ha : PAD X [a, b] ta u) (hs : starEach [a, b] X.env = [(false, eval a X.env), (false, eval b X.env)] := by rfl) (hs2 : starEach [b] X.env = [(false, eval b X.env)] := by rfl) :
    PID X tg (.Call (.Name "range" p) [a, b] [] pos) (iRng2 ta) (diRng2 u) :=
  ⟨pi_range2 hg hm ha.pe hs hs2, fun σ H m S δ R R' Rl e q c => ha.sim σ H m S δ _ _ Rl e q fun ds S1 vs H1 m1 q1 k1 g1 R1 r1 => by
    split at q1
    case h_2 => exact q1.elim
    rename_i i j
    obtain ⟨h1, h2, h3, h4, q1⟩ := q1
    cases r1 with
    | cons r1 r2 =>
      cases r2 with
      | cons r2 r3 =>
        cases r3
        cases r1
        cases r2
        exact ⟨i, j, rfl, ⟨by omega, by omega, by omega, by omega⟩, c _ _ S1 H1 m1 _ q1 k1 g1 R1 (it_rng i _)⟩⟩
/-- enumerate(list) -/
def enumD (ds : List D) : List D := ds.zipIdx.map fun p => .tup [.int (p.2 : Nat), p.1]
theorem enumD_at {ds : List D} {i : Nat} {d : D} (h : ds[i]? = some d) : (enumD ds)[i]? = some (.tup [.int (i : Nat), d]) := by
  unfold enumD
  rw [List.getElem?_map, List.getElem?_zipIdx, h]
  simp
theorem enumD_len (ds : List D) : (enumD ds).length = ds.length := by
  unfold enumD
  rw [List.length_map, List.length_zipIdx]
theorem it_enum {K : PySem.W.Frag} {H : Hp} {m : Mp} {a : Addr} {j : Nat} {ds : List D} (e : m[j]? = some a) : ItOk K H m (enumD ds) (fun S => S[j]? = some (.lst ds)) (Ite K a) where
  go := fun i H' m' S k g R hs hi => by
    rw [enumD_len] at hi
    obtain ⟨vs, h, r⟩ := R.ob j a _ (g.at e) hs
    exact ⟨vs, vs[i]'(by rw [r.length]; exact hi), SqL.of h, List.getElem?_eq_getElem _⟩
  yld := fun i H' m' S x H2 k g R hs hi ⟨T, y, ex, hT, eH, hy⟩ => by
    subst ex eH
    obtain ⟨vs, h, r⟩ := R.ob j a _ (g.at e) hs
    obtain ⟨d, h1, h2⟩ := r.getV (hy vs (SqL.of h))
    exact ⟨_, enumD_at h1, .new hT, R.new hT, .tup (SqT.of upd_same) (.cons (.int _) (.cons (Dv.mono (.new hT) (.refl _) _ _ h2) .nil))⟩
  stop := fun i H' m' S k g R hs hi => by
    rw [enumD_len] at hi
    obtain ⟨vs, h, r⟩ := R.ob j a _ (g.at e) hs
    exact ⟨vs, SqL.of h, by rw [r.length]; exact hi⟩
@[simp] def diEnum (u : DA) : DI := fun δ S R => u δ S fun xs S1 => ∃ j ds, xs = [.loc j] ∧ S1[j]? = some (.lst ds) ∧ R (enumD ds) (fun S => S[j]? = some (.lst ds)) S1
theorem i_enum {a : Expr} {ta : TA} {u : DA} {elts : List Expr} {kk : Nat} {tpos : Pos} (hg : Gl X "enumerate") (hm : X.mg "enumerate" = none) (ha : PAD X [a] ta u) (hs : starEach [a] X.env = [(false, eval a X.env)] := by rfl) :
    PID X (.Tuple elts kk tpos) (.Call (.Name "enumerate" p) [a] [] pos) (iEnum X.K ta) (diEnum u) :=
  ⟨pi_enum hg hm ha.pe hs, fun σ H m S δ R R' Rl e q c => ha.sim σ H m S δ _ _ Rl e q fun xs S1 vs H1 m1 ⟨j, ds, ej, s1, q1⟩ k1 g1 R1 r1 => by
    subst ej
    cases r1 with
    | cons r1 r2 =>
      cases r2
      obtain ⟨a, vs, rfl, em, hH, d1⟩ := R1.lst r1 s1
      exact ⟨a, vs, rfl, SqL.of hH, c _ _ S1 H1 m1 _ q1 k1 g1 R1 (it_enum em)⟩⟩
end

/-! ### for -/
def forL (st : Sto → Prop) (g : DG) (tb : DS) : List D → DS
  | [], D, δ, S => st S ∧ D.nx δ S
  | x :: xs, D, δ, S => st S ∧ g x δ S fun δ2 S2 => tb { D with nx := forL st g tb xs D, ct := forL st g tb xs D, bk := D.nx } δ2 S2
@[simp] def sFor (di : DI) (g : DG) (tb : DS) : DS := fun D δ S => di δ S fun items st S1 => forL st g tb items D δ S1
theorem sim_for {K : PySem.W.Frag} {wi : TI} {di : DI} {g : TG} {g' : DG} {tb : TS} {tb' : DS} (hi : SimI K wi di) (hg : SimG K g g') (hb : SimS K tb tb') : SimS K (tFor wi g tb) (sFor di g' tb') := by
  intro σ H m S δ D D' R e q c
  refine hi σ H m S δ _ _ R e q ?_
  intro items st S1 H1 m1 J q1 k1 g1 R1 J1
  refine ⟨fun i n σ H => n = items.length - i ∧ i ≤ items.length ∧ ∃ m S δ, Kp H1 H ∧ Gr m1 m ∧ Rel K H m S ∧ EnvR K H m σ δ ∧ forL st g' tb' (items.drop i) D' δ S,
    ⟨items.length, rfl, Nat.zero_le _, m1, S1, δ, .refl _, .refl _, R1, e.mono k1 g1, q1⟩, ?_⟩
  rintro i n σ2 H2 ⟨rfl, hle, m2, S2, δ2, k2, g2, R2, e2, q2⟩
  by_cases hlt : i < items.length
  · rw [List.drop_eq_getElem_cons hlt] at q2
    obtain ⟨hst, q2⟩ := q2
    refine .inr ⟨J1.go i H2 m2 S2 k2 g2 R2 hst hlt, fun σ H => ∃ m S δ, Kp H1 H ∧ Gr m1 m ∧ Rel K H m S ∧ EnvR K H m σ δ ∧ forL st g' tb' (items.drop (i + 1)) D' δ S,
      fun σ' H' h => ⟨items.length - (i + 1), by omega, rfl, hlt, h⟩, fun x H' y => ?_⟩
    obtain ⟨d, hd, k3, R3, r3⟩ := J1.yld i H2 m2 S2 x H' k2 g2 R2 hst hlt y
    rw [List.getElem?_eq_getElem hlt] at hd
    cases hd
    refine hg σ2 H' m2 S2 δ2 _ x _ _ R3 (e2.mono k3 (.refl _)) r3 q2 ?_
    intro δ4 S4 σ4 H4 m4 q4 k4 g4 R4 e4
    have kk : Kp H1 H4 := (k2.trans k3).trans k4
    have gg : Gr m1 m4 := g2.trans g4
    have again : ContS K H4 m4 (forL st g' tb' (items.drop (i + 1)) D') (fun σ H => ∃ m S δ, Kp H1 H ∧ Gr m1 m ∧ Rel K H m S ∧ EnvR K H m σ δ ∧ forL st g' tb' (items.drop (i + 1)) D' δ S) :=
      fun δ5 S5 σ5 H5 m5 q5 k5 g5 R5 e5 => ⟨m5, S5, δ5, kk.trans k5, gg.trans g5, R5, e5, q5⟩
    have cc := c.mono (k1.trans kk) (g1.trans gg)
    exact hb σ4 H4 m4 S4 δ4 _ _ R4 e4 q4 ⟨again, cc.rt, cc.nx, again⟩
  · have ei : i = items.length := by omega
    subst ei
    rw [List.drop_length] at q2
    obtain ⟨hst, q2⟩ := q2
    exact .inl ⟨J1.stop _ H2 m2 S2 k2 g2 R2 hst (Nat.le_refl _), c.nx δ2 S2 σ2 H2 m2 q2 (k1.trans k2) (g1.trans g2) R2 e2⟩
theorem s_for {X : Cx} {tg iter : Expr} {body : List Stmt} {wi : TI} {di : DI} {g : TG} {g' : DG} {tb : TS} {tb' : DS} {pos : Pos} (hp : PassesOwn (model X.prog X.w) X.A X.env X.xe) (hc : X.calm = true) (hi : PID X tg iter wi di) (hg : PGD X tg g g') (hb : PSsD X body tb tb')
    (hs : ∀ x, foldedSetIterable iter X.env x = pure x := by intro _; rfl) : PSD X (.For tg iter body [] pos) (tFor wi g tb) (sFor di g' tb') := ⟨ps_for hp hc hi.pe hg.pe hb.pe hs, sim_for hi.sim hg.sim hb.sim⟩

/-! ### while -/
def whileL (c : DT) (tb : DS) : Nat → DS
  | 0, _, _, _ => False
  | n + 1, D, δ, S => c δ S fun b S1 => if b = true then tb { D with nx := whileL c tb n D, ct := whileL c tb n D, bk := D.nx } δ S1 else D.nx δ S1
def sWhile (c : DT) (tb : DS) : DS := fun D δ S => ∃ n, whileL c tb n D δ S
theorem sim_while {K : PySem.W.Frag} {c : TT} {c' : DT} {tb : TS} {tb' : DS} (hc : SimT K c c') (hb : SimS K tb tb') : SimS K (tWhile c tb) (sWhile c' tb') := by
  intro σ H m S δ D D' R e ⟨n0, q⟩ cc
  refine ⟨fun n σ H2 => ∃ m2 S δ, Kp H H2 ∧ Gr m m2 ∧ Rel K H2 m2 S ∧ EnvR K H2 m2 σ δ ∧ whileL c' tb' n D' δ S, ⟨n0, m, S, δ, .refl _, .refl _, R, e, q⟩, ?_⟩
  rintro n σ2 H2 ⟨m2, S2, δ2, k2, g2, R2, e2, q2⟩
  cases n with
  | zero => exact q2.elim
  | succ n =>
    refine hc σ2 H2 m2 S2 δ2 _ _ R2 e2 q2 ?_
    intro b S3 H3 m3 q3 k3 g3 R3
    have kk := k2.trans k3
    have gg := g2.trans g3
    cases b with
    | false =>
      exact cc.nx δ2 S3 σ2 H3 m3 q3 kk gg R3 (e2.mono k3 g3)
    | true =>
      refine ⟨fun σ H2 => ∃ m2 S δ, Kp H H2 ∧ Gr m m2 ∧ Rel K H2 m2 S ∧ EnvR K H2 m2 σ δ ∧ whileL c' tb' n D' δ S, fun σ' H' h => ⟨n, Nat.lt_succ_self n, h⟩, ?_⟩
      have again : ContS K H3 m3 (whileL c' tb' n D') (fun σ H2 => ∃ m2 S δ, Kp H H2 ∧ Gr m m2 ∧ Rel K H2 m2 S ∧ EnvR K H2 m2 σ δ ∧ whileL c' tb' n D' δ S) :=
        fun δ5 S5 σ5 H5 m5 q5 k5 g5 R5 e5 => ⟨m5, S5, δ5, kk.trans k5, gg.trans g5, R5, e5, q5⟩
      have c2 := cc.mono kk gg
      exact hb σ2 H3 m3 S3 δ2 _ _ R3 (e2.mono k3 g3) q3 ⟨again, c2.rt, c2.nx, again⟩
theorem s_while {X : Cx} {c : Expr} {body : List Stmt} {tc : TT} {dc : DT} {tb : TS} {tb' : DS} {pos : Pos} (hp : PassesOwn (model X.prog X.w) X.A X.env X.xe) (hc : PTD X c tc dc) (hb : PSsD X body tb tb') : PSD X (.While c body [] pos) (tWhile tc tb) (sWhile dc tb') :=
  ⟨ps_while hp hc.pe hb.pe, sim_while hc.sim hb.sim⟩

/-! ### list comprehensions -/
def lcL (st : Sto → Prop) (i l : Nat) (tt : DT) (te : DE) : List D → DEnv → Sto → DK → Prop
  | [], _, S, Q => st S ∧ Q (.loc l) S
  | x :: xs, δ, S, Q => st S ∧ tt (δ.set i (some x)) S fun b S2 => if b = true then te (δ.set i (some x)) S2 fun y S3 => ∃ acc, S3[l]? = some (.lst acc) ∧ acc.length < 100000 ∧ lcL st i l tt te xs δ (S3.set l (.lst (acc ++ [y]))) Q else lcL st i l tt te xs δ S2 Q
@[simp] def dLc (di : DI) (i : Nat) (tt : DT) (te : DE) : DE := fun δ S Q => di δ S fun items st S1 => lcL st i S1.length tt te items (δ.set i none) (S1 ++ [.lst []]) Q
@[simp] def dYes : DT := fun _ S Q => Q true S
theorem EnvR.wipe {K : PySem.W.Frag} {H : Hp} {m : Mp} {σ : L2.St} {δ : DEnv} (e : EnvR K H m σ δ) (i : Nat) : EnvR K H m (L2.wipe σ [i]) (δ.set i none) := by
  show EnvR K H m (σ.set i none) (δ.set i none)
  refine ⟨by rw [List.length_set, List.length_set]; exact e.len, fun j d h => ?_⟩
  by_cases hj : j = i
  · subst hj
    by_cases hl : j < δ.length
    · rw [List.getElem?_set_self hl] at h
      cases h
    · rw [List.getElem?_eq_none (by rw [List.length_set]; omega)] at h
      cases h
  · rw [List.getElem?_set_ne (fun z => hj z.symm)] at h
    obtain ⟨v, a, b⟩ := e.at_ j d h
    exact ⟨v, by rw [List.getElem?_set_ne (fun z => hj z.symm)]; exact a, b⟩
theorem sim_lc {K : PySem.W.Frag} {wi : TI} {di : DI} {tt : TT} {tt' : DT} {te : TE} {te' : DE} {i : Nat} (hi : SimI K wi di) (ht : SimT K tt tt') (he : SimE K te te') : SimE K (tLc wi (gName i) tt te [i]) (dLc di i tt' te') := by
  intro σ H m S δ Q Q' R e q c
  refine hi σ H m S δ _ _ R e q ?_
  intro items st S1 H1 m1 J q1 k1 g1 R1 J1 DD hD
  have kD : Kp H1 (upd H1 DD (.lst [])) := .new hD
  have gD : Gr m1 (m1 ++ [DD]) := ⟨[DD], rfl⟩
  have RD : Rel K (upd H1 DD (.lst [])) (m1 ++ [DD]) (S1 ++ [.lst []]) := R1.push hD .nil
  have mD : (m1 ++ [DD])[S1.length]? = some DD := by rw [← R1.len, List.getElem?_append_right (Nat.le_refl _), Nat.sub_self]; rfl
  refine ⟨fun j n H => n = items.length - j ∧ j ≤ items.length ∧ ∃ m S, Kp (upd H1 DD (.lst [])) H ∧ Gr (m1 ++ [DD]) m ∧ Rel K H m S ∧ lcL st i S1.length tt' te' (items.drop j) (δ.set i none) S Q',
    ⟨items.length, rfl, Nat.zero_le _, m1 ++ [DD], _, .refl _, .refl _, RD, q1⟩, ?_⟩
  rintro j n H2 ⟨rfl, hle, m2, S2, k2, g2, R2, q2⟩
  by_cases hlt : j < items.length
  · rw [List.drop_eq_getElem_cons hlt] at q2
    obtain ⟨hst, q2⟩ := q2
    refine .inr ⟨J1.go j H2 m2 S2 (kD.trans k2) (gD.trans g2) R2 hst hlt, fun H => ∃ m S, Kp (upd H1 DD (.lst [])) H ∧ Gr (m1 ++ [DD]) m ∧ Rel K H m S ∧ lcL st i S1.length tt' te' (items.drop (j + 1)) (δ.set i none) S Q',
      fun H' h => ⟨items.length - (j + 1), by omega, rfl, hlt, h⟩, fun x H' y => ?_⟩
    obtain ⟨d, hd, k3, R3, r3⟩ := J1.yld j H2 m2 S2 x H' (kD.trans k2) (gD.trans g2) R2 hst hlt y
    rw [List.getElem?_eq_getElem hlt] at hd
    cases hd
    have k13 : Kp H1 H' := (kD.trans k2).trans k3
    have g13 : Gr m1 m2 := gD.trans g2
    have e3 : EnvR K H' m2 ((L2.wipe σ [i]).set i (some x)) ((δ.set i none).set i (some items[j])) := ((e.mono (k1.trans k13) (g1.trans g13)).wipe i).set i r3
    refine ⟨?_, ht _ H' m2 S2 _ _ _ R3 e3 q2 ?_⟩
    · show (((σ.set i none).set i (some x)).set i none) = σ.set i none
      rw [List.set_set, List.set_set]
    · intro b S4 H4 m4 q4 k4 g4 R4
      cases b with
      | false => exact ⟨m4, S4, (k2.trans k3).trans k4, g2.trans g4, R4, q4⟩
      | true =>
        refine he _ H4 m4 S4 _ _ _ R4 (e3.mono k4 g4) q4 ?_
        intro y2 S5 v5 H5 m5 q5 k5 g5 R5 r5
        obtain ⟨acc, s5, hl5, q5⟩ := q5
        have em : m5[S1.length]? = some DD := ((g2.trans g4).trans g5).at mD
        obtain ⟨vs, hH5, d5⟩ := R5.ob _ _ _ em s5
        refine ⟨vs, hH5, by rw [d5.length]; exact small5' hl5, m5, _, (((k2.trans k3).trans k4).trans k5).trans (.put hH5), (g2.trans g4).trans g5, R5.put em hH5 (d5.append (.cons r5 .nil)), q5⟩
  · have ei : j = items.length := by omega
    subst ei
    rw [List.drop_length] at q2
    obtain ⟨hst, q2⟩ := q2
    refine .inl ⟨J1.stop _ H2 m2 S2 (kD.trans k2) (gD.trans g2) R2 hst (Nat.le_refl _), ?_⟩
    exact c (.loc S1.length) S2 (.ref DD) H2 m2 q2 ((k1.trans kD).trans k2) ((g1.trans gD).trans g2) R2 (.loc (g2.at mD))
section
variable {X : Cx} {elt tg iter : Expr} {ifs : List Expr} {scope : Scope} {y x : Str} {i j : Nat} {pos spos px py : Pos} {wi : TI} {di : DI} {tt : TT} {tt' : DT} {te : TE} {te' : DE}
structure PTsD (X : Cx) (ifs : List Expr) (tt : TT) (t : DT) : Prop where
  pe : PTs X ifs tt
  sim : SimT X.K tt t
theorem dts_nil : PTsD X [] tYes dYes := ⟨pts_nil, fun σ H m S δ Q Q' R e q c => c true S H m q (.refl H) (.refl m) R⟩
theorem dts_one {c : Expr} {t : TT} {t' : DT} (h : PTD X c t t') : PTsD X [c] t t' := ⟨pts_one h.pe, h.sim⟩
theorem d_lc (hc : X.calm = true) (hN : X.N.Nodup) (hi : PID X (.Name x px) iter wi di) (ok : BlkOk X.N X.env.scope scope [(x, i)])
    (hg : ∀ (s : Shared) (H : Hp) (C : Addr) (cl : List (Str × Addr)) (fp : List Addr), PG (X.blk s H scope (compEnvC scope cl C X.env) fp) (.Name x px) (gName i))
    (ht : ∀ (s : Shared) (H : Hp) (C : Addr) (cl : List (Str × Addr)) (fp : List Addr), PTsD (X.blk s H scope (compEnvC scope cl C X.env) fp) ifs tt tt')
    (he : ∀ (s : Shared) (H : Hp) (C : Addr) (cl : List (Str × Addr)) (fp : List Addr), PD (X.blk s H scope (compEnvC scope cl C X.env) fp) elt te te') (hs : ∀ x, foldedSetIterable iter X.env x = pure x := by intro _; rfl) (s0 : Shared) :
    PD X (.ListComp elt [⟨.Name x px, iter, ifs, 0⟩] scope pos) (tLc wi (gName i) tt te [i]) (dLc di i tt' te') :=
  ⟨pe_lc (own := [(x, i)]) hc hN hi.pe ok hg (fun s H C cl fp => (ht s H C cl fp).pe) (fun s H C cl fp => (he s H C cl fp).pe) hs,
   sim_lc hi.sim (ht s0 (fun _ => none) 0 [] []).sim (he s0 (fun _ => none) 0 [] []).sim⟩
theorem s_setLc (hc : X.calm = true) (hN : X.N.Nodup) (hy : X.N[j]? = some y) (hyl : X.env.scope.names.lookup y = some .local) (hsw : swapsWith (.ListComp elt [⟨.Name x px, iter, ifs, 0⟩] scope pos) (some (.Name y py)) spos.line X.env = pure true)
    (hi : PID X (.Name x px) iter wi di) (ok : BlkOk X.N X.env.scope scope [(x, i)])
    (hg : ∀ (s : Shared) (H : Hp) (C : Addr) (cl : List (Str × Addr)) (fp : List Addr), PG (X.blk s H scope (compEnvC scope cl C X.env) fp) (.Name x px) (gName i))
    (ht : ∀ (s : Shared) (H : Hp) (C : Addr) (cl : List (Str × Addr)) (fp : List Addr), PTsD (X.blk s H scope (compEnvC scope cl C X.env) fp) ifs tt tt')
    (he : ∀ (s : Shared) (H : Hp) (C : Addr) (cl : List (Str × Addr)) (fp : List Addr), PD (X.blk s H scope (compEnvC scope cl C X.env) fp) elt te te') (hs : ∀ x, foldedSetIterable iter X.env x = pure x := by intro _; rfl) (s0 : Shared) :
    PSD X (.Assign [.Name y py] (.ListComp elt [⟨.Name x px, iter, ifs, 0⟩] scope pos) spos) (tAsg (tLc wi (gName i) tt te [i]) (gName j)) (sAsg (dLc di i tt' te') (gdName j)) :=
  ⟨ps_setLc (own := [(x, i)]) hc hN hy hyl hsw hi.pe ok hg (fun s H C cl fp => (ht s H C cl fp).pe) (fun s H C cl fp => (he s H C cl fp).pe) hs,
   sim_asg (sim_lc hi.sim (ht s0 (fun _ => none) 0 [] []).sim (he s0 (fun _ => none) 0 [] []).sim) sim_gName⟩
end

/-! ### a def -/
@[simp] def startD (n : Nat) (ds : List D) : DEnv := ds.map some ++ List.replicate (n - ds.length) none
theorem envR_start {K : PySem.W.Frag} {H : Hp} {m : Mp} {vs : List V} {ds : List D} (N : List Str) (r : DvA K H m vs ds) : EnvR K H m (start N vs) (startD N.length ds) := by
  unfold L2.start startD
  refine ⟨by rw [List.length_append, List.length_append, List.length_map, List.length_map, List.length_replicate, List.length_replicate, r.length], fun i d h => ?_⟩
  by_cases hi : i < ds.length
  · rw [List.getElem?_append_left (by rw [List.length_map]; exact hi), List.getElem?_map] at h
    obtain ⟨d', hd, e⟩ := Option.map_eq_some_iff.mp h
    cases e
    obtain ⟨v, h1, h2⟩ := r.get hd
    refine ⟨v, ?_, h2⟩
    rw [List.getElem?_append_left (by rw [List.length_map, r.length]; exact hi), List.getElem?_map, h1]
    rfl
  · rw [List.getElem?_append_right (by rw [List.length_map]; omega)] at h
    rw [List.getElem?_replicate] at h
    split at h <;> cases h
theorem defD {P : Program} {w : World} {K : PySem.W.Frag} {mg : Str → Option Value} {base : Heap} {k n : Nat} {x qual : Str} {st : Stmt} {f : Addr} {fd : FuncData} {ps N : List Str} {c : DSp}
    (F : Fun K x qual st f fd) (S : FnScope N ps (defScope st)) (hm : mg x = some (.ref f)) (hb : Binds K fd ps []) (hn : ps.length = n) (len : ∀ ds S Q, c ds S Q → ds.length = n)
    (hb0 : ∀ (cdv : Value) (A : Around) (outer : List Env) (s : Shared) (H : Hp) (E : XK),
      (cxD P w K mg base N qual st f cdv A outer s H E).A.guards = some [] → Room k (cxD P w K mg base N qual st f cdv A outer s H E).A →
      ∃ ts t, PSsD (cxD P w K mg base N qual st f cdv A outer s H E) (defBody st) ts t ∧ ∀ (ds : List D) (S : Sto) (Q : DK), c ds S Q → t { nx := fun _ S' => Q .non S', rt := Q } (startD N.length ds) S) :
    DefD P w K mg base (k + 1) x n c := by
  refine ⟨f, fd, ps, hn, funG F S (fun vs H Q E ⟨m, S', ds, Q', R, r, hc, ct⟩ => by rw [r.length, len _ _ _ hc, hn]) ?_, hm, F.kp, hb⟩
  intro cdv A outer s H E hg hr
  obtain ⟨ts, t, h, q⟩ := hb0 cdv A outer s H E hg hr
  refine ⟨ts, h.pe, ?_⟩
  rintro H vs Q E ⟨m, S', ds, Q', R, r, hc, ct⟩
  exact h.sim _ H m S' _ _ _ R (envR_start N r) (q ds S' Q' hc)
    ⟨fun δ' S2 σ' H' m' q' k g R' e' => ct _ S2 _ H' m' q' k g R' .non, ct, fun δ' S2 σ' H' m' q' _ _ _ _ => q'.elim, fun δ' S2 σ' H' m' q' _ _ _ _ => q'.elim⟩
end DL

set_option Elab.async false
set_option linter.all false
set_option maxRecDepth 100000
set_option maxHeartbeats 1000000
namespace DL
open PySem L2 PyProof.Rows
/-! ### dicts -/
def valD (kvs : List (Key × D)) (k : Key) : Option D := (kvs.find? fun kv => decide (kv.1 = k)).map (·.2)
theorem val_rel {K : PySem.W.Frag} {H : Hp} {m : Mp} {k : Key} : ∀ {kws : List (Key × V)} {kvs : List (Key × D)}, kws.map (·.1) = kvs.map (·.1) → DvA K H m (kws.map (·.2)) (kvs.map (·.2)) →
    (valV kws k = none ∧ valD kvs k = none) ∨ ∃ v d, valV kws k = some v ∧ valD kvs k = some d ∧ Dv K H m v d
  | [], [], _, _ => .inl ⟨rfl, rfl⟩
  | [], _ :: _, h, _ => by cases h
  | _ :: _, [], h, _ => by cases h
  | (a, v) :: r, (b, d) :: s, h, q => by
    have h1 : a = b := (List.cons.inj h).1
    have h2 : r.map (·.1) = s.map (·.1) := (List.cons.inj h).2
    subst h1
    cases q with
    | cons q1 q2 =>
      by_cases e : a = k
      · exact .inr ⟨v, d, by simp [valV, e], by simp [valD, e], q1⟩
      · have e1 : valV ((a, v) :: r) k = valV r k := by simp [valV, e]
        have e2 : valD ((a, d) :: s) k = valD s k := by simp [valD, e]
        rw [e1, e2]
        exact val_rel h2 q2
theorem Rel.pushK {K : PySem.W.Frag} {H : Hp} {m : Mp} {S : Sto} (R : Rel K H m S) {p : Addr} {kws : List (Key × V)} {kvs : List (Key × D)} (h : H p = none) (hk : kws.map (·.1) = kvs.map (·.1)) (r : DvA K H m (kws.map (·.2)) (kvs.map (·.2))) :
    Rel K (upd H p (.dK kws)) (m ++ [p]) (S ++ [.dct kvs]) := by
  have k : Kp H (upd H p (.dK kws)) := .new h
  have g : Gr m (m ++ [p]) := ⟨[p], rfl⟩
  refine ⟨by rw [List.length_append, List.length_append, R.len]; rfl, ?_, fun i a o e s => ?_⟩
  · rw [List.nodup_append]
    exact ⟨R.nd, List.nodup_cons.mpr ⟨List.not_mem_nil, List.nodup_nil⟩, fun a ha b hb z => R.out h (by rw [List.mem_singleton.mp hb] at z; exact z ▸ ha)⟩
  · by_cases hi : i < m.length
    · rw [List.getElem?_append_left hi] at e
      rw [List.getElem?_append_left (R.len ▸ hi)] at s
      exact (R.ob i a o e s).mono k g (upd_ne (R.ne h e))
    · have hl : i < (m ++ [p]).length := (List.getElem?_eq_some_iff.mp e).1
      have hi' : i = m.length := by rw [List.length_append, List.length_singleton] at hl; omega
      subst hi'
      rw [List.getElem?_append_right (Nat.le_refl _), Nat.sub_self] at e
      rw [R.len, List.getElem?_append_right (Nat.le_refl _), Nat.sub_self] at s
      cases e
      cases s
      exact ⟨kws, upd_same, hk, DvA.mono k g _ _ r⟩
/-- {'a': 1, ..}: texts to ints, all written -/
def cKV (cs : List (Str × Int)) : List (Key × V) := cs.map fun p => (Sum.inr p.1, .int p.2)
def cKD (cs : List (Str × Int)) : List (Key × D) := cs.map fun p => (Sum.inr p.1, .int p.2)
def cTr (cs : List (Str × Int)) : List (TE × TE) := cs.map fun p => (tC (.str p.1), tC (.int p.2))
theorem tPairs_c {σ : L2.St} {H : Hp} : ∀ (cs : List (Str × Int)) {Q : List (V × V) → Hp → Prop}, Q ((cKV cs).map fun kv => (kV kv.1, kv.2)) H → tPairs (cTr cs) σ H Q
  | [], _, q => q
  | p :: r, _, q => by
    show tPairs (cTr r) σ H _
    exact tPairs_c r q
theorem cK_snd {K : PySem.W.Frag} {H : Hp} {m : Mp} : ∀ cs : List (Str × Int), DvA K H m ((cKV cs).map (·.2)) ((cKD cs).map (·.2))
  | [] => .nil
  | p :: r => .cons (.int _) (cK_snd r)
theorem cK_fst : ∀ cs : List (Str × Int), (cKV cs).map (·.1) = (cKD cs).map (·.1)
  | [] => rfl
  | p :: r => congrArg (Sum.inr p.1 :: ·) (cK_fst r)
section
variable {X : Cx} {pos : Pos} {keys : List (Option Expr)} {values : List Expr}
@[simp] def dDict (cs : List (Str × Int)) : DE := fun _ S Q => Q (.loc S.length) (S ++ [.dct (cKD cs)])
theorem d_dict (cs : List (Str × Int)) (h : PPs X pos keys values (cTr cs)) (hall : keys.all (·.isSome) = true) (hl : keys.length = values.length) (h0 : keys ≠ []) (h15 : keys.length ≤ 15) (hc : cs.length ≤ 15) (hm : mergeK [] (cKV cs) = cKV cs) :
    PD X (.Dict keys values pos) (tDisp (cTr cs)) (dDict cs) := ⟨pe_disp h hall hl h0 h15, fun σ H m S δ Q Q' R e q c p hp => by
  refine tPairs_c cs ⟨upd_same, cKV cs, rfl, by unfold cKV; rw [List.length_map]; exact hc, ?_⟩
  rw [upd_upd, hm]
  exact c _ _ _ _ (m ++ [p]) q (.new hp) ⟨[p], rfl⟩ (R.pushK hp (cK_fst cs) (cK_snd cs)) (.loc (by rw [← R.len, List.getElem?_append_right (Nat.le_refl _), Nat.sub_self]; rfl))⟩
@[simp] def dGet2 (t u w : DE) : DE := fun δ S Q => t δ S fun x S1 => ∃ i, x = .loc i ∧ (∃ kvs, S1[i]? = some (.dct kvs)) ∧ u δ S1 fun y S2 => w δ S2 fun z S3 => ∃ kvs s, S3[i]? = some (.dct kvs) ∧ y = .str s ∧ Q ((valD kvs (.inr s)).getD z) S3
theorem d_get2 {o e f : Expr} {td ty tx : TE} {t u w : DE} {apos : Pos} (hu : X.A.units + 1 < cLine) (ho : PD X o td t) (he : PD X e ty u) (hf : PD X f tx w) (mm : M2 X o "get" apos e f pos) :
    PD X (.Call (.Attribute o "get" apos) [e, f] [] pos) (tDGet2 td ty tx) (dGet2 t u w) := ⟨pe_dget2 hu ho.pe he.pe hf.pe mm, fun σ H m S δ Q Q' R ev q c => by
  refine ho.sim σ H m S δ _ _ R ev q ?_
  rintro x S1 v H1 m1 ⟨i, rfl, ⟨kvs, s1⟩, q1⟩ k1 g1 R1 r1
  cases r1 with
  | loc em =>
    obtain ⟨kws, hH, hk, r⟩ := R1.ob i _ _ em s1
    refine ⟨_, rfl, .inl ⟨kws, .inl hH⟩, he.sim σ H1 m1 S1 δ _ _ R1 (ev.mono k1 g1) q1 ?_⟩
    intro y S2 vy H2 m2 q2 k2 g2 R2 r2
    refine hf.sim σ H2 m2 S2 δ _ _ R2 (ev.mono (k1.trans k2) (g1.trans g2)) q2 ?_
    rintro z S3 vz H3 m3 ⟨kvs3, s, s3, rfl, q3⟩ k3 g3 R3 r3
    cases r2
    have em3 := (g2.trans g3).at em
    obtain ⟨kws3, hH3, hk3, r3'⟩ := R3.ob i _ _ em3 s3
    have cc := c.mono ((k1.trans k2).trans k3) ((g1.trans g2).trans g3)
    refine ⟨_, DGet.k (k := Sum.inr s) hH3, ?_⟩
    rcases val_rel (k := Sum.inr s) hk3 r3' with ⟨e1, e2⟩ | ⟨v, d, e1, e2, dd⟩
    · rw [e1]
      rw [e2] at q3
      exact cc.same R3 q3 r3
    · rw [e1]
      rw [e2] at q3
      exact cc.same R3 q3 dd⟩
end
end DL

set_option Elab.async false
set_option linter.all false
set_option maxRecDepth 100000
namespace DL
open PySem L2 PyProof.Rows
theorem bt_len : bootBuiltins "len" = some (.builtin "len") := by decide +kernel
theorem bt_abs : bootBuiltins "abs" = some (.builtin "abs") := by decide +kernel
theorem bt_sum : bootBuiltins "sum" = some (.builtin "sum") := by decide +kernel
theorem bt_all : bootBuiltins "all" = some (.builtin "all") := by decide +kernel
theorem bt_repr : bootBuiltins "repr" = some (.builtin "repr") := by decide +kernel
theorem bt_isinstance : bootBuiltins "isinstance" = some (.builtin "isinstance") := by decide +kernel
theorem bt_int : bootBuiltins "int" = some (.type "int") := by decide +kernel
theorem bt_str : bootBuiltins "str" = some (.type "str") := by decide +kernel
theorem bt_bool : bootBuiltins "bool" = some (.type "bool") := by decide +kernel
theorem bt_tuple : bootBuiltins "tuple" = some (.type "tuple") := by decide +kernel
theorem bt_list : bootBuiltins "list" = some (.type "list") := by decide +kernel
theorem bt_dict : bootBuiltins "dict" = some (.type "dict") := by decide +kernel
theorem u65 {k : Nat} {A : Around} (r : Room k A) : A.units + 65 < cLine := by have := r.un; omega
def vAbs : List V → Hp → VK → Prop := fun xs H Q => ∃ i, xs = [.int i] ∧ Q (.int (if i < 0 then -i else i)) H
def vInt : List V → Hp → VK → Prop := fun xs H Q => (∃ i, xs = [.int i] ∧ Q (.int i) H) ∨ ∃ k, xs = [.bl k] ∧ Q (.int (if k then 1 else 0)) H
def rdAbs : List D → Sto → DK → Prop := fun xs S Q => ∃ i, xs = [.int i] ∧ Q (.int (if i < 0 then -i else i)) S
def rdSum : List D → Sto → DK → Prop := fun xs S Q => ∃ i ns, xs = [.loc i] ∧ S[i]? = some (.lst (List.map D.int ns)) ∧ Q (.int ns.sum) S
def rdAll : List D → Sto → DK → Prop := fun xs S Q => ∃ i bs, xs = [.loc i] ∧ S[i]? = some (.lst (List.map D.bl bs)) ∧ Q (.bl (bs.all id)) S
def rdRepr : List D → Sto → DK → Prop := fun xs S Q => ∃ d p, xs = [d] ∧ PyOf S d p ∧ p.showable = true ∧ p.hasDict = false ∧ p.shown.length ≤ sizeLine ∧ p.depth ≤ 60 ∧ Q (.str p.shown) S
end DL

set_option Elab.async false
set_option linter.all false
set_option maxRecDepth 100000
namespace DL
open PySem L2 PyProof.Rows
theorem map_toNat_inj : ∀ {a b : List Char}, a.map Char.toNat = b.map Char.toNat → a = b
  | [], [], _ => rfl
  | [], _ :: _, h => by cases h
  | _ :: _, [], h => by cases h
  | x :: a, y :: b, h => by
    have h1 : x.toNat = y.toNat := (List.cons.inj h).1
    have h2 := map_toNat_inj (List.cons.inj h).2
    have h3 : x = y := Char.ext (UInt32.toNat_inj.mp h1)
    rw [h3, h2]
@[simp] theorem str_inj (a b : String) : (Str.ofString a = Str.ofString b) = (a = b) := by
  apply propext
  constructor
  · intro h
    rw [Str.ofString_eq_toList, Str.ofString_eq_toList] at h
    have h2 : (a.toList.map Char.toNat).toArray = (b.toList.map Char.toNat).toArray := congrArg Str.cps h
    have h3 : a.toList.map Char.toNat = b.toList.map Char.toNat := by simpa using congrArg Array.toList h2
    exact String.toList_inj.mp (map_toNat_inj h3)
  · intro h
    rw [h]
@[simp] theorem kb1 : kitB "int" "int" = some true := by decide +kernel
@[simp] theorem kb2 : kitB "int" "bool" = some false := by decide +kernel
@[simp] theorem kb3 : kitB "int" "str" = some false := by decide +kernel
@[simp] theorem kb4 : kitB "int" "tuple" = some false := by decide +kernel
@[simp] theorem kb5 : kitB "bool" "int" = some true := by decide +kernel
@[simp] theorem kb6 : kitB "bool" "bool" = some true := by decide +kernel
@[simp] theorem kb7 : kitB "bool" "str" = some false := by decide +kernel
@[simp] theorem kb8 : kitB "bool" "tuple" = some false := by decide +kernel
@[simp] theorem kb9 : kitB "str" "int" = some false := by decide +kernel
@[simp] theorem kb10 : kitB "str" "bool" = some false := by decide +kernel
@[simp] theorem kb11 : kitB "str" "str" = some true := by decide +kernel
@[simp] theorem kb12 : kitB "str" "tuple" = some false := by decide +kernel
@[simp] theorem kb13 : kitB "tuple" "int" = some false := by decide +kernel
@[simp] theorem kb14 : kitB "tuple" "bool" = some false := by decide +kernel
@[simp] theorem kb15 : kitB "tuple" "str" = some false := by decide +kernel
@[simp] theorem kb16 : kitB "tuple" "tuple" = some true := by decide +kernel
@[simp] theorem kb17 : kitB "NoneType" "int" = some false := by decide +kernel
@[simp] theorem kb18 : kitB "NoneType" "bool" = some false := by decide +kernel
@[simp] theorem kb19 : kitB "NoneType" "str" = some false := by decide +kernel
@[simp] theorem kb20 : kitB "NoneType" "tuple" = some false := by decide +kernel
@[simp] theorem kb21 : kitB "list" "int" = some false := by decide +kernel
@[simp] theorem kb22 : kitB "list" "bool" = some false := by decide +kernel
@[simp] theorem kb23 : kitB "list" "str" = some false := by decide +kernel
@[simp] theorem kb24 : kitB "list" "tuple" = some false := by decide +kernel
@[simp] theorem kb25 : kitB "dict" "int" = some false := by decide +kernel
@[simp] theorem kb26 : kitB "dict" "bool" = some false := by decide +kernel
@[simp] theorem kb27 : kitB "dict" "str" = some false := by decide +kernel
@[simp] theorem kb28 : kitB "dict" "tuple" = some false := by decide +kernel
theorem pyA_strs {S : Sto} : ∀ ys : List Str, PyOfA S (ys.map D.str) (ys.map PyData.str)
  | [] => .nil
  | y :: r => .cons (.str y) (pyA_strs r)
theorem lay_strs : ∀ ys : List Str, ys.all PyData.strOk = true → PyData.canLayAll0 (ys.map PyData.str) = true
  | [], _ => by simp [PyData.canLayAll0]
  | y :: r, h => by
    rw [List.all_cons, Bool.and_eq_true] at h
    simp [PyData.canLayAll0, PyData.canLay0, h.1, lay_strs r h.2]
theorem dep_strs : ∀ ys : List Str, PyData.depthAll (ys.map PyData.str) = 0
  | [] => by simp [PyData.depthAll]
  | y :: r => by simp [PyData.depthAll, PyData.depth, dep_strs r]
theorem any_strs (x : Str) : ∀ ys : List Str, ((ys.map PyData.str).any fun z => PyData.eqv z (.str x)) = ys.any fun y => y == x
  | [] => rfl
  | y :: r => by
    rw [List.map_cons, List.any_cons, List.any_cons, any_strs x r]
    simp [PyData.eqv]
theorem shaped_str {x : Str} (h : PyData.strOk x = true) : SeqAt.shaped (.str x) = true := by simp [SeqAt.shaped, PyData.canLay0, PyData.depth, h]
theorem in_strs {f : Bool → Bool} {x : Str} {ys : List Str} {S : Sto} {Q : DK} (hx : PyData.strOk x = true) (hy : ys.all PyData.strOk = true) (q : Q (.bl (f (ys.any fun y => y == x))) S) : rdIn f (.str x) (.tup (ys.map D.str)) S Q := by
  refine ⟨.str x, ys.map PyData.str, .str x, pyA_strs ys, shaped_str hx, ?_, ?_⟩
  · simp [SeqAt.shaped, PyData.canLay0, PyData.depth, lay_strs ys hy, dep_strs ys]
  · rw [any_strs]
    exact q
/-- (text, int) in (pairs) -/
def prP (p : Str × Int) : PyData := .tuple [.str p.1, .int p.2]
def prD (p : Str × Int) : D := .tup [.str p.1, .int p.2]
theorem py_pr {S : Sto} (p : Str × Int) : PyOf S (prD p) (prP p) := .tup (.cons (.str _) (.cons (.int _) .nil))
theorem pyA_prs {S : Sto} : ∀ ys : List (Str × Int), PyOfA S (ys.map prD) (ys.map prP)
  | [] => .nil
  | y :: r => .cons (py_pr y) (pyA_prs r)
theorem lay_prs : ∀ ys : List (Str × Int), (ys.all fun p => PyData.strOk p.1) = true → PyData.canLayAll0 (ys.map prP) = true
  | [], _ => by simp [PyData.canLayAll0]
  | y :: r, h => by
    rw [List.all_cons, Bool.and_eq_true] at h
    simp [PyData.canLayAll0, PyData.canLay0, prP, h.1, lay_prs r h.2]
theorem dep_prs : ∀ ys : List (Str × Int), PyData.depthAll (ys.map prP) ≤ 1
  | [] => by simp [PyData.depthAll]
  | y :: r => by
    have := dep_prs r
    simp [PyData.depthAll, PyData.depth, prP]
    omega
theorem any_prs (x : Str × Int) : ∀ ys : List (Str × Int), ((ys.map prP).any fun z => PyData.eqv z (prP x)) = ys.any fun y => y.1 == x.1 && y.2 == x.2
  | [] => rfl
  | y :: r => by
    rw [List.map_cons, List.any_cons, List.any_cons, any_prs x r]
    simp [PyData.eqv, PyData.eqvAll, prP]
theorem in_prs {f : Bool → Bool} {x : Str × Int} {ys : List (Str × Int)} {S : Sto} {Q : DK} (hx : PyData.strOk x.1 = true) (hy : (ys.all fun p => PyData.strOk p.1) = true) (q : Q (.bl (f (ys.any fun y => y.1 == x.1 && y.2 == x.2))) S) : rdIn f (prD x) (.tup (ys.map prD)) S Q := by
  refine ⟨prP x, ys.map prP, py_pr x, pyA_prs ys, ?_, ?_, ?_⟩
  · simp [SeqAt.shaped, PyData.canLay0, PyData.canLayAll0, PyData.depth, PyData.depthAll, prP, hx]
  · have := dep_prs ys
    simp [SeqAt.shaped, PyData.canLay0, PyData.depth, lay_prs ys hy]
    omega
  · rw [any_prs]
    exact q
theorem DefD.never {P : Program} {w : World} {K : PySem.W.Frag} {mg : Str → Option Value} {base : Heap} {x qual : Str} {st : Stmt} {f : Addr} {fd : FuncData} {ps : List Str} (F : Fun K x qual st f fd) (hm : mg x = some (.ref f)) (hb : Binds K fd ps []) (k : Nat) :
    DefD P w K mg base k x ps.length (fun _ _ _ => False) :=
  ⟨f, fd, ps, rfl, ⟨fun vs H Q E ⟨_, _, _, _, _, _, h, _⟩ => h.elim, fun A o s H ar us vs Q E _ _ _ _ _ ⟨_, _, _, _, _, _, h, _⟩ => h.elim⟩, hm, F.kp, hb⟩
@[simp] theorem atI_0 {α : Type} (x : α) (r : List α) : atI (x :: r) 0 = some x := atI_nat (j := 0) rfl
@[simp] theorem atI_1 {α : Type} (x y : α) (r : List α) : atI (x :: y :: r) 1 = some y := atI_nat (j := 1) rfl
@[simp] theorem atI_2 {α : Type} (x y z : α) (r : List α) : atI (x :: y :: z :: r) 2 = some z := atI_nat (j := 2) rfl
@[simp] theorem atI_3 {α : Type} (x y z w : α) (r : List α) : atI (x :: y :: z :: w :: r) 3 = some w := atI_nat (j := 3) rfl
@[simp] theorem atI_4 {α : Type} (x y z w v : α) (r : List α) : atI (x :: y :: z :: w :: v :: r) 4 = some v := atI_nat (j := 4) rfl
theorem cutD_from (ds : List D) (k : Nat) : cutD ds (some (k : Int)) none = ds.drop k := by
  unfold cutD
  rw [HT.sIx_nat, HT.sIx_none]
  by_cases h : k ≤ ds.length
  · rw [Nat.min_eq_left h]
    exact List.take_of_length_le (by rw [List.length_drop]; omega)
  · rw [Nat.min_eq_right (by omega), List.drop_length, List.drop_eq_nil_of_le (by omega)]
    exact List.take_nil
@[simp] theorem cutD_1 (ds : List D) : cutD ds (some 1) none = ds.drop 1 := cutD_from ds 1
@[simp] theorem cutD_2 (ds : List D) : cutD ds (some 2) none = ds.drop 2 := cutD_from ds 2
theorem cutD_to (ds : List D) (k : Nat) : cutD ds none (some (k : Int)) = ds.take k := by
  unfold cutD
  rw [HT.sIx_nat, HT.sIx_none, List.drop_zero, Nat.sub_zero]
  by_cases h : k ≤ ds.length
  · rw [Nat.min_eq_left h]
  · rw [Nat.min_eq_right (by omega), List.take_length, List.take_of_length_le (by omega)]
/-- the store has grown -/
def Ext (S S' : Sto) : Prop := ∃ z, S' = S ++ z
theorem Ext.refl (S : Sto) : Ext S S := ⟨[], (List.append_nil S).symm⟩
theorem Ext.trans {S S1 S2 : Sto} (a : Ext S S1) (b : Ext S1 S2) : Ext S S2 := by
  obtain ⟨x, rfl⟩ := a
  obtain ⟨y, rfl⟩ := b
  exact ⟨x ++ y, List.append_assoc ..⟩
theorem Ext.new (S : Sto) (o : Ob) : Ext S (S ++ [o]) := ⟨[o], rfl⟩
theorem Ext.at {S S' : Sto} {i : Nat} {o : Ob} (e : Ext S S') (h : S[i]? = some o) : S'[i]? = some o := by
  obtain ⟨z, rfl⟩ := e
  obtain ⟨hi, _⟩ := List.getElem?_eq_some_iff.mp h
  rw [List.getElem?_append_left hi]
  exact h
theorem Ext.len {S S' : Sto} (e : Ext S S') : S.length ≤ S'.length := by
  obtain ⟨z, rfl⟩ := e
  rw [List.length_append]
  omega
def Gq (Q : DK) (d : D) (S : Sto) : Prop := ∀ S', Ext S S' → Q d S'
theorem Gq.up {Q : DK} {d : D} {S S1 : Sto} (h : Gq Q d S) (e : Ext S S1) : Gq Q d S1 := fun S2 e2 => h S2 (e.trans e2)
theorem Gq.now {Q : DK} {d : D} {S : Sto} (h : Gq Q d S) : Q d S := h S (.refl S)
theorem at_end (S : Sto) (o : Ob) : (S ++ [o])[S.length]? = some o := by rw [List.getElem?_append_right (Nat.le_refl _), Nat.sub_self]; rfl
theorem set_end (S : Sto) (o o2 : Ob) : (S ++ [o]).set S.length o2 = S ++ [o2] := by
  rw [List.set_append_right (h := Nat.le_refl _), Nat.sub_self]
  rfl
theorem all_bs {S : Sto} {Q : DK} (bs : List Bool) (h : bs.all id = true) (q : Gq Q (.bl true) S) : rdAll [.loc S.length] (S ++ [.lst (bs.map D.bl)]) Q :=
  ⟨S.length, bs, rfl, at_end S _, by rw [h]; exact q _ (.new _ _)⟩
end DL

set_option Elab.async false
set_option linter.all false
set_option maxHeartbeats 400000
namespace DL
open PySem L2
/-- the def itself, not only by its name -/
theorem fnD {P : Program} {w : World} {K : PySem.W.Frag} {mg : Str → Option Value} {base : Heap} {k n : Nat} {x qual : Str} {st : Stmt} {f : Addr} {fd : FuncData} {ps N : List Str} {c : DSp}
    (F : Fun K x qual st f fd) (S : FnScope N ps (defScope st)) (hn : ps.length = n) (len : ∀ ds S Q, c ds S Q → ds.length = n)
    (hb0 : ∀ (cdv : Value) (A : Around) (outer : List Env) (s : Shared) (H : Hp) (E : XK),
      (cxD P w K mg base N qual st f cdv A outer s H E).A.guards = some [] → Room k (cxD P w K mg base N qual st f cdv A outer s H E).A →
      ∃ ts t, PSsD (cxD P w K mg base N qual st f cdv A outer s H E) (defBody st) ts t ∧ ∀ (ds : List D) (S : Sto) (Q : DK), c ds S Q → t { nx := fun _ S' => Q .non S', rt := Q } (startD N.length ds) S) :
    FnG P w K mg base CX0 (k + 1) f fd ps (toSp K c) := by
  refine funG F S (fun vs H Q E ⟨m, S', ds, Q', R, r, hc, ct⟩ => by rw [r.length, len _ _ _ hc, hn]) ?_
  intro cdv A outer s H E hg hr
  obtain ⟨ts, t, h, q⟩ := hb0 cdv A outer s H E hg hr
  refine ⟨ts, h.pe, ?_⟩
  rintro H vs Q E ⟨m, S', ds, Q', R, r, hc, ct⟩
  exact h.sim _ H m S' _ _ _ R (envR_start N r) (q ds S' Q' hc)
    ⟨fun δ' S2 σ' H' m' q' k g R' e' => ct _ S2 _ H' m' q' k g R' .non, ct, fun δ' S2 σ' H' m' q' _ _ _ _ => q'.elim, fun δ' S2 σ' H' m' q' _ _ _ _ => q'.elim⟩
/-- a def of the module -/
structure Dfn (K : PySem.W.Frag) (mg : Str → Option Value) (x : Str) (st : Stmt) (ps : List Str) : Prop where
  ex : ∃ f fd, Fun K x x st f fd ∧ mg x = some (.ref f) ∧ Binds K fd ps []
end DL
namespace DL
open PySem L2
theorem dfn_mk {K : PySem.W.Frag} {h : Heap} {mg : Str → Option Value} {x : Str} {st : Stmt} {ps : List Str} {f : Addr} {oc kV dc pm cd ct : Value} {od an : Option Addr} {sl : Array (Option Value)} (X : K.In h) (G : h.Ns mainGlobals mg)
    (hb : ∀ (kV doc pm : Value) (an : Option Addr) (cdv ct : Value) (us : List Value), us.length = ps.length → bindArgs (PySem.W.fnOf x x (defArgs st) (defBody st) (defScope st) Value.none kV doc pm an cdv ct) { pos := us } = pure (ps.zip us))
    (a : PySem.W.nsIn K mainGlobals x = some (some (.ref f))) (l : K.lookup f = some ⟨oc, od, .func (PySem.W.fnOf x x (defArgs st) (defBody st) (defScope st) .none kV dc pm an cd ct), sl⟩) (c : PySem.W.codeIn K cd x = true) (k : PySem.W.keepIn K (.ref f) = true) : Dfn K mg x st ps := by
  have F := fun_mk (st := st) l c k
  exact ⟨f, _, F, PySem.W.mg_of X G a, F.binds hb⟩
theorem int_mk {K : PySem.W.Frag} {h : Heap} {mg : Str → Option Value} {x : Str} {i : Int} {t : Tok} (X : K.In h) (G : h.Ns mainGlobals mg) (a : PySem.W.nsIn K mainGlobals x = some (some (.int i t))) : GlD K mg x (.int i) (.int i) := ⟨⟨_, PySem.W.mg_of X G a, ⟨_, rfl⟩⟩, fun _ _ => .int i⟩
theorem str_mk {K : PySem.W.Frag} {h : Heap} {mg : Str → Option Value} {x : Str} {i : Str} {t : Tok} (X : K.In h) (G : h.Ns mainGlobals mg) (a : PySem.W.nsIn K mainGlobals x = some (some (.str i t))) : GlD K mg x (.str i) (.str i) := ⟨⟨_, PySem.W.mg_of X G a, ⟨_, rfl⟩⟩, fun _ _ => .str i⟩
/-- a value of the module's top -/
inductive KvA (K : PySem.W.Frag) : List Value → List D → Prop
  | nil : KvA K [] []
  | int {i : Int} {t : Tok} {us ds} : KvA K us ds → KvA K (.int i t :: us) (.int i :: ds)
  | str {i : Str} {t : Tok} {us ds} : KvA K us ds → KvA K (.str i t :: us) (.str i :: ds)
  | tup {a : Addr} {od : Option Addr} {n : Nat} {sl : Array (Option Value)} {ws us : List Value} {es ds : List D} : K.lookup a = some ⟨.type "tuple", od, .seq ⟨ws⟩ n, sl⟩ → ws.length ≤ sizeLine → KvA K ws es → KvA K us ds → KvA K (.ref a :: us) (.tup es :: ds)
theorem KvA.ok {K : PySem.W.Frag} {us : List Value} {ds : List D} (h : KvA K us ds) : ∃ vs, Vals vs us ∧ ∀ H m, DvA K H m vs ds := by
  induction h with
  | nil => exact ⟨[], .nil, fun _ _ => .nil⟩
  | int h ih =>
    obtain ⟨vs, a, b⟩ := ih
    exact ⟨.int _ :: vs, .cons ⟨_, rfl⟩ a, fun H m => .cons (.int _) (b H m)⟩
  | str h ih =>
    obtain ⟨vs, a, b⟩ := ih
    exact ⟨.str _ :: vs, .cons ⟨_, rfl⟩ a, fun H m => .cons (.str _) (b H m)⟩
  | tup hl hz h1 h2 ih1 ih2 =>
    obtain ⟨vs, a, b⟩ := ih1
    obtain ⟨vs2, a2, b2⟩ := ih2
    exact ⟨.ref _ :: vs2, .cons rfl a2, fun H m => .cons (.tup (.inr ⟨_, _, _, hl, rfl, rfl, hz, a⟩) (b H m)) (b2 H m)⟩
theorem tup_mk {K : PySem.W.Frag} {h : Heap} {mg : Str → Option Value} {x : Str} {a : Addr} {od : Option Addr} {n : Nat} {sl : Array (Option Value)} {ws : List Value} {es : List D} (X : K.In h) (G : h.Ns mainGlobals mg)
    (e : PySem.W.nsIn K mainGlobals x = some (some (.ref a))) (hl : K.lookup a = some ⟨.type "tuple", od, .seq ⟨ws⟩ n, sl⟩) (hz : ws.length ≤ sizeLine) (hk : KvA K ws es) : ∃ a, GlD K mg x (.ref a) (.tup es) := by
  obtain ⟨vs, p, q⟩ := hk.ok
  exact ⟨a, ⟨_, PySem.W.mg_of X G e, rfl⟩, fun H m => .tup (.inr ⟨_, _, _, hl, rfl, rfl, hz, p⟩) (q H m)⟩
/-- the goal that the head leaves, with the law's contract: a script, and true behind it -/
def c_law : DSp := fun ds S Q => ∃ ns : List Int, ds = [.scr ns] ∧ ns.length ≤ 63 ∧ ∀ S', Q (.bl true) S'
theorem walkD {l : PySem.W.OpenLaw} {k : Nat} {q : Program} {loose : List Str} {XP : (Str → Option Value) → Heap → Prop} {YP : World → Heap → Prop}
    {d : DefRec} {K : Params → PySem.W.Frag} {x : Str} (hn : l.most = some 63) (hdf : d.params.defaults = []) (hr : Room k callerA) (hY : ∀ (w : World) (h : Heap), YP w h → (K w.params).In h)
    (F : ∀ (w : World) (mg : Str → Option Value) (fa : Addr) (h : Heap), (K w.params).In h → h.Ns mainGlobals mg → mg d.name = some (.ref fa) →
      ∃ fd : FuncData, (∀ (s : Shared) (u : Value), BindsTo s fd ⟨[u], []⟩ [(x, u)]) ∧
      ∀ base : Heap, (K w.params).In base → base.Ns mainGlobals mg → FnG l.prog w (K w.params) mg base CX0 k fa fd [x] (toSp (K w.params) c_law)) :
    PySem.W.WalkO q loose XP YP l.row.toRowW d [] (fun f vs => PySem.call f vs) :=
  walkG (n := 63) (k := k) (x := x) (CX := fun _ => CX0) (sp := fun w => toSp (K w.params) c_law) hn (by decide) hdf hr hY F
    (fun w H a ns hl hS => ⟨[], [], [.scr ns], fun d _ => d = .bl true, ⟨rfl, .nil, fun i _ _ e _ => by simp at e⟩, .cons (.scr hS) .nil, ⟨ns, rfl, hl, fun _ => rfl⟩, fun d S' v H' m' e _ _ _ r => by cases e; cases r; rfl⟩) (fun _ _ _ _ _ z => z)
theorem top_mk {P : Program} {w : World} {K : PySem.W.Frag} {h : Heap} {mg : Str → Option Value} {x y : Str} {st : Stmt} {k : Nat} {f fa : Addr} {oc kV dc pm cd ct : Value} {od an : Option Addr} {sl : Array (Option Value)} (X : K.In h) (G : h.Ns mainGlobals mg) (hfa : mg x = some (.ref fa))
    (hb : ∀ (kV doc pm : Value) (an : Option Addr) (cdv ct u : Value), bindArgs (PySem.W.fnOf x x (defArgs st) (defBody st) (defScope st) Value.none kV doc pm an cdv ct) { pos := [u] } = pure [(y, u)])
    (hF : ∀ (f : Addr) (fd : FuncData), Fun K x x st f fd → ∀ base : Heap, FnG P w K mg base CX0 k f fd [y] (toSp K c_law))
    (a : PySem.W.nsIn K mainGlobals x = some (some (.ref f))) (l : K.lookup f = some ⟨oc, od, .func (PySem.W.fnOf x x (defArgs st) (defBody st) (defScope st) .none kV dc pm an cd ct), sl⟩) (c : PySem.W.codeIn K cd x = true) (kp : PySem.W.keepIn K (.ref f) = true) :
    ∃ fd : FuncData, (∀ (s : Shared) (u : Value), BindsTo s fd ⟨[u], []⟩ [(y, u)]) ∧ ∀ base : Heap, K.In base → base.Ns mainGlobals mg → FnG P w K mg base CX0 k fa fd [y] (toSp K c_law) := by
  have e := hfa.symm.trans (PySem.W.mg_of X G a)
  cases e
  exact ⟨_, fun s u => .of_eq (hb _ _ _ _ _ _ u), fun base _ _ => hF f _ (fun_mk (st := st) l c kp) base⟩
end DL

set_option Elab.async false
set_option linter.all false
set_option maxRecDepth 100000
set_option maxHeartbeats 1000000
namespace DL
open PySem L2 PyProof.Rows
/-! ### readings as functions: what a piece gives, if it gives something -/
abbrev FE := DEnv → Sto → Option (D × Sto)
abbrev FT := DEnv → Sto → Option (Bool × Sto)
abbrev FA := DEnv → Sto → Option (List D × Sto)
abbrev FO := DEnv → Sto → Option (Option Int × Sto)
abbrev FG := D → DEnv → Sto → Option (DEnv × Sto)
abbrev FI := DEnv → Sto → Option ((List D × Option (Nat × List D)) × Sto)
inductive Fl where
  | nx (δ : DEnv) | rt (d : D) | bk (δ : DEnv) | ct (δ : DEnv)
abbrev FS := DEnv → Sto → Option (Fl × Sto)
abbrev Fn := List D → Sto → Option (D × Sto)
abbrev FOp := D → D → Sto → Option (D × Sto)
def DEnds.fin (Z : DEnds) : Fl → Sto → Prop
  | .nx δ, S => Z.nx δ S | .rt d, S => Z.rt d S | .bk δ, S => Z.bk δ S | .ct δ, S => Z.ct δ S
def stOk : Option (Nat × List D) → Sto → Prop
  | none, _ => True
  | some p, S => S[p.1]? = some (.lst p.2)
def toE (f : FE) : DE := fun δ S Q => ∃ p, f δ S = some p ∧ Q p.1 p.2
def toT (f : FT) : DT := fun δ S Q => ∃ p, f δ S = some p ∧ Q p.1 p.2
def toA (f : FA) : DA := fun δ S Q => ∃ p, f δ S = some p ∧ Q p.1 p.2
def toO (f : FO) : DO := fun δ S Q => ∃ p, f δ S = some p ∧ Q p.1 p.2
def toG (f : FG) : DG := fun x δ S Q => ∃ p, f x δ S = some p ∧ Q p.1 p.2
def toI (f : FI) : DI := fun δ S R => ∃ p, f δ S = some p ∧ R p.1.1 (stOk p.1.2) p.2
def toS (f : FS) : DS := fun Z δ S => ∃ p, f δ S = some p ∧ Z.fin p.1 p.2
def toR (f : FOp) : D → D → Sto → DK → Prop := fun x y S Q => ∃ p, f x y S = some p ∧ Q p.1 p.2
def toC (f : Fn) : DSp := fun ds S Q => ∃ p, f ds S = some p ∧ Q p.1 p.2
section
variable {K : PySem.W.Frag}
theorem SimE.imp {te : TE} {t t' : DE} (h : SimE K te t) (i : ∀ δ S Q, t' δ S Q → t δ S Q) : SimE K te t' := fun σ H m S δ Q Q' R e q c => h σ H m S δ Q Q' R e (i _ _ _ q) c
theorem SimT.imp {te : TT} {t t' : DT} (h : SimT K te t) (i : ∀ δ S Q, t' δ S Q → t δ S Q) : SimT K te t' := fun σ H m S δ Q Q' R e q c => h σ H m S δ Q Q' R e (i _ _ _ q) c
theorem SimA.imp {te : TA} {t t' : DA} (h : SimA K te t) (i : ∀ δ S Q, t' δ S Q → t δ S Q) : SimA K te t' := fun σ H m S δ Q Q' R e q c => h σ H m S δ Q Q' R e (i _ _ _ q) c
theorem SimO.imp {te : TO} {t t' : DO} (h : SimO K te t) (i : ∀ δ S Q, t' δ S Q → t δ S Q) : SimO K te t' := fun σ H m S δ Q Q' R e q c => h σ H m S δ Q Q' R e (i _ _ _ q) c
theorem SimI.imp {te : TI} {t t' : DI} (h : SimI K te t) (i : ∀ δ S Q, t' δ S Q → t δ S Q) : SimI K te t' := fun σ H m S δ Q Q' R e q c => h σ H m S δ Q Q' R e (i _ _ _ q) c
theorem SimS.imp {te : TS} {t t' : DS} (h : SimS K te t) (i : ∀ Z δ S, t' Z δ S → t Z δ S) : SimS K te t' := fun σ H m S δ Z Z' R e q c => h σ H m S δ Z Z' R e (i _ _ _ q) c
theorem SimG.imp {te : TG} {t t' : DG} (h : SimG K te t) (i : ∀ x δ S Q, t' x δ S Q → t x δ S Q) : SimG K te t' := fun σ H m S δ x v Q Q' R e r q c => h σ H m S δ x v Q Q' R e r (i _ _ _ _ q) c
end
section
variable {X : Cx}
theorem PD.imp {e : Expr} {te : TE} {t t' : DE} (h : PD X e te t) (i : ∀ δ S Q, t' δ S Q → t δ S Q) : PD X e te t' := ⟨h.pe, h.sim.imp i⟩
theorem PTD.imp {e : Expr} {te : TT} {t t' : DT} (h : PTD X e te t) (i : ∀ δ S Q, t' δ S Q → t δ S Q) : PTD X e te t' := ⟨h.pe, h.sim.imp i⟩
theorem PWD.imp {e : Expr} {te : TT} {t t' : DT} (h : PWD X e te t) (i : ∀ δ S Q, t' δ S Q → t δ S Q) : PWD X e te t' := ⟨h.pe, h.sim.imp i⟩
theorem PTsD.imp {e : List Expr} {te : TT} {t t' : DT} (h : PTsD X e te t) (i : ∀ δ S Q, t' δ S Q → t δ S Q) : PTsD X e te t' := ⟨h.pe, h.sim.imp i⟩
theorem PAD.imp {e : List Expr} {te : TA} {t t' : DA} (h : PAD X e te t) (i : ∀ δ S Q, t' δ S Q → t δ S Q) : PAD X e te t' := ⟨h.pe, h.sim.imp i⟩
theorem POD.imp {e : Option Expr} {te : TO} {t t' : DO} (h : POD X e te t) (i : ∀ δ S Q, t' δ S Q → t δ S Q) : POD X e te t' := ⟨h.pe, h.sim.imp i⟩
theorem PID.imp {tg e : Expr} {te : TI} {t t' : DI} (h : PID X tg e te t) (i : ∀ δ S Q, t' δ S Q → t δ S Q) : PID X tg e te t' := ⟨h.pe, h.sim.imp i⟩
theorem PSD.imp {e : Stmt} {te : TS} {t t' : DS} (h : PSD X e te t) (i : ∀ Z δ S, t' Z δ S → t Z δ S) : PSD X e te t' := ⟨h.pe, h.sim.imp i⟩
theorem PSsD.imp {e : List Stmt} {te : TS} {t t' : DS} (h : PSsD X e te t) (i : ∀ Z δ S, t' Z δ S → t Z δ S) : PSsD X e te t' := ⟨h.pe, h.sim.imp i⟩
theorem PGD.imp {e : Expr} {te : TG} {t t' : DG} (h : PGD X e te t) (i : ∀ x δ S Q, t' x δ S Q → t x δ S Q) : PGD X e te t' := ⟨h.pe, h.sim.imp i⟩
/-- an operator that gives what g gives -/
theorem OpD.imp' {f : Value → Value → Sem Value} {r : R2} {r' r2 : D → D → Sto → DK → Prop} (h : OpD X f r r') (i : ∀ x y S Q, r2 x y S Q → r' x y S Q) : OpD X f r r2 := ⟨h.op, fun H m S x y vx vy Q Q' R rx ry q c => h.sim H m S x y vx vy Q Q' R rx ry (i _ _ _ _ q) c⟩
theorem CallD.imp' {f : Value} {r : List V → Hp → VK → Prop} {r' r2 : List D → Sto → DK → Prop} (h : CallD X f r r') (i : ∀ xs S Q, r2 xs S Q → r' xs S Q) : CallD X f r r2 := ⟨h.op, fun H m S xs vs Q Q' R rx q c => h.sim H m S xs vs Q Q' R rx (i _ _ _ q) c⟩
end

/-! ### names, constants, displays -/
def fVar (i : Nat) (δ : DEnv) (S : Sto) : Option (D × Sto) := (δ[i]?).bind fun o => o.bind fun d => some (d, S)
def fC (d : D) (δ : DEnv) (S : Sto) : Option (D × Sto) := some (d, S)
def fNil (δ : DEnv) (S : Sto) : Option (List D × Sto) := some ([], S)
def fCons (f : FE) (g : FA) (δ : DEnv) (S : Sto) : Option (List D × Sto) := (f δ S).bind fun p => (g δ p.2).bind fun q => some (p.1 :: q.1, q.2)
def fTup (g : FA) (δ : DEnv) (S : Sto) : Option (D × Sto) := (g δ S).bind fun p => if p.1.length ≤ 100000 then some (.tup p.1, p.2) else none
def fLst (g : FA) (δ : DEnv) (S : Sto) : Option (D × Sto) := (g δ S).bind fun p => if p.1.length ≤ 100000 then some (.loc p.2.length, p.2 ++ [.lst p.1]) else none
section
variable {X : Cx} {pos : Pos} {e : Expr} {es : List Expr} {te : TE} {f : FE} {ta : TA} {g : FA}
theorem xv (i : Nat) {x : Str} {pos : Pos} (hN : X.N[i]? = some x := by rfl) (hv : Vis X.env.scope x := by first | exact Or.inl rfl | exact Or.inr (Or.inl rfl) | exact Or.inr (Or.inr rfl)) (hd : (x == ("__debug__" : Str)) = false := by decide)
    (hcd : (x == ("__classdict__" : Str)) = false := by decide) : PD X (.Name x pos) (tVar i) (toE (fVar i)) := (dv i hN hv hd hcd).imp (by
  rintro δ S Q ⟨p, h, q⟩
  simp only [fVar, Option.bind_eq_some_iff] at h
  obtain ⟨o, h1, d, h2, h3⟩ := h
  cases h3
  subst h2
  exact ⟨d, h1, q⟩)
theorem imp_C {d : D} : ∀ δ S Q, toE (fC d) δ S Q → dC d δ S Q := by
  rintro δ S Q ⟨p, h, q⟩
  cases h
  exact q
theorem x_int {i j} : PD X (.Constant (.int i) j pos) (tC (.int i)) (toE (fC (.int i))) := d_int.imp imp_C
theorem x_bl {b j} : PD X (.Constant (.bool b) j pos) (tC (.bl b)) (toE (fC (.bl b))) := d_bl.imp imp_C
theorem x_non {j} : PD X (.Constant .none j pos) (tC .non) (toE (fC .non)) := d_non.imp imp_C
theorem x_str {x j} : PD X (.Constant (.str x) j pos) (tC (.str x)) (toE (fC (.str x))) := d_str.imp imp_C
theorem x_glob {x : Str} {v : V} {d : D} (hg : Gl X x) (g : GlD X.K X.mg x v d) (hd : (x == ("__debug__" : Str)) = false := by decide) : PD X (.Name x pos) (tC v) (toE (fC d)) := (d_glob hg g hd).imp imp_C
theorem xa_nil : PAD X [] tNil (toA fNil) := da_nil.imp (by
  rintro δ S Q ⟨p, h, q⟩
  cases h
  exact q)
theorem xa_cons (h : PD X e te (toE f)) (hr : PAD X es ta (toA g)) (hs : starEach (e :: es) X.env = (false, eval e X.env) :: starEach es X.env := by rfl) : PAD X (e :: es) (tCons te ta) (toA (fCons f g)) := (da_cons h hr hs).imp (by
  rintro δ S Q ⟨p, h, q⟩
  simp only [fCons, Option.bind_eq_some_iff] at h
  obtain ⟨a, h1, b, h2, h3⟩ := h
  cases h3
  exact ⟨a, h1, b, h2, q⟩)
theorem x_tup {x1} (h : PAD X es ta (toA g)) : PD X (.Tuple es x1 pos) (tTup ta) (toE (fTup g)) := (d_tup h).imp (by
  rintro δ S Q ⟨p, h, q⟩
  simp only [fTup, Option.bind_eq_some_iff] at h
  obtain ⟨a, h1, h2⟩ := h
  split at h2
  · cases h2
    exact ⟨a, h1, by assumption, q⟩
  · cases h2)
theorem x_lst (h : PAD X es ta (toA g)) : PD X (.List es pos) (tLst ta) (toE (fLst g)) := (d_lst h).imp (by
  rintro δ S Q ⟨p, h, q⟩
  simp only [fLst, Option.bind_eq_some_iff] at h
  obtain ⟨a, h1, h2⟩ := h
  split at h2
  · cases h2
    exact ⟨a, h1, by assumption, q⟩
  · cases h2)
end

/-! ### operators -/
def fOp (o : FOp) (f g : FE) (δ : DEnv) (S : Sto) : Option (D × Sto) := (f δ S).bind fun p => (g δ p.2).bind fun q => o p.1 q.1 q.2
def asB : Option (D × Sto) → Option (Bool × Sto)
  | some (.bl b, S) => some (b, S)
  | _ => none
@[simp] theorem asB_bl (b : Bool) (S : Sto) : asB (some (.bl b, S)) = some (b, S) := rfl
@[simp] theorem asB_none : asB none = none := rfl
theorem asB_some {o : Option (D × Sto)} {p : Bool × Sto} (h : asB o = some p) : o = some (.bl p.1, p.2) := by
  unfold asB at h
  split at h
  · cases h; rfl
  · cases h
def fTest (f : FE) (δ : DEnv) (S : Sto) : Option (Bool × Sto) := asB (f δ S)
def fChain (o o2 : FOp) (f g h : FE) (δ : DEnv) (S : Sto) : Option (D × Sto) := (f δ S).bind fun p => (g δ p.2).bind fun q => (asB (o p.1 q.1 q.2)).bind fun k => if k.1 = true then (h δ k.2).bind fun z => o2 q.1 z.1 z.2 else some (.bl false, k.2)
section
variable {X : Cx} {pos : Pos} {a b c : Expr} {ta tb tc : TE} {f g h : FE} {r r2 : R2} {o o2 : FOp}
theorem x_op {op : Operator} (ho : OpD X (binaryOp op) r (toR o)) (h1 : PD X a ta (toE f)) (h2 : PD X b tb (toE g)) : PD X (.BinOp a op b pos) (tOp r ta tb) (toE (fOp o f g)) := (d_op ho h1 h2).imp (by
  rintro δ S Q ⟨p, h, q⟩
  simp only [fOp, Option.bind_eq_some_iff] at h
  obtain ⟨a, h1, b, h2, h3⟩ := h
  exact ⟨a, h1, b, h2, p, h3, q⟩)
theorem x_cmp {op : CmpOp} (ho : OpD X (compareOp op) r (toR o)) (h1 : PD X a ta (toE f)) (h2 : PD X b tb (toE g)) (hm : behindInMarks op b = false) : PD X (.Compare a [op] [b] pos) (tOp r ta tb) (toE (fOp o f g)) := (d_cmp ho h1 h2 hm).imp (by
  rintro δ S Q ⟨p, h, q⟩
  simp only [fOp, Option.bind_eq_some_iff] at h
  obtain ⟨a, h1, b, h2, h3⟩ := h
  exact ⟨a, h1, b, h2, p, h3, q⟩)
theorem xt_cmp {op : CmpOp} (ho : OpD X (compareOp op) r (toR o)) (h1 : PD X a ta (toE f)) (h2 : PD X b tb (toE g)) (hm : behindInMarks op b = false) : PTD X (.Compare a [op] [b] pos) (tTest (tOp r ta tb)) (toT (fTest (fOp o f g))) := (dt_cmp ho h1 h2 hm).imp (by
  rintro δ S Q ⟨p, h, q⟩
  have h := asB_some h
  simp only [fOp, Option.bind_eq_some_iff] at h
  obtain ⟨a, h1, b, h2, h3⟩ := h
  exact ⟨a, h1, b, h2, _, h3, p.1, rfl, q⟩)
theorem imp_chain : ∀ δ S Q, toE (fChain o o2 f g h) δ S Q → dChain (toR o) (toR o2) (toE f) (toE g) (toE h) δ S Q := by
  rintro δ S Q ⟨p, h, q⟩
  simp only [fChain, Option.bind_eq_some_iff] at h
  obtain ⟨a, h1, b, h2, k, h3, h4⟩ := h
  refine ⟨a, h1, b, h2, _, asB_some h3, k.1, rfl, ?_⟩
  by_cases hk : k.1 = true
  · rw [if_pos hk] at h4 ⊢
    simp only [Option.bind_eq_some_iff] at h4
    obtain ⟨c, h5, h6⟩ := h4
    exact ⟨c, h5, p, h6, q⟩
  · rw [if_neg hk] at h4 ⊢
    cases h4
    exact q
theorem x_chain {op op' : CmpOp} (ho : OpD X (compareOp op) r (toR o)) (ho' : OpD X (compareOp op') r2 (toR o2)) (h1 : PD X a ta (toE f)) (h2 : PD X b tb (toE g)) (h3 : PD X c tc (toE h)) (hm : lastMarks [op, op'] [b, c] = false := by with_unfolding_all rfl) :
    PD X (.Compare a [op, op'] [b, c] pos) (tChain r r2 ta tb tc) (toE (fChain o o2 f g h)) := (d_chain ho ho' h1 h2 h3 hm).imp imp_chain
theorem xt_chain {op op' : CmpOp} (ho : OpD X (compareOp op) r (toR o)) (ho' : OpD X (compareOp op') r2 (toR o2)) (h1 : PD X a ta (toE f)) (h2 : PD X b tb (toE g)) (h3 : PD X c tc (toE h)) (hm : lastMarks [op, op'] [b, c] = false := by with_unfolding_all rfl) :
    PTD X (.Compare a [op, op'] [b, c] pos) (tTest (tChain r r2 ta tb tc)) (toT (fTest (fChain o o2 f g h))) := (dt_chain ho ho' h1 h2 h3 hm).imp (by
  rintro δ S Q ⟨p, h, q⟩
  exact imp_chain δ S _ ⟨_, asB_some h, p.1, rfl, q⟩)
theorem xt_val {e : Expr} (h : PD X e ta (toE f)) (he : ∀ whole, isTrue e X.env whole = (do let v ← whole; standAt e.pos; holding [v] (truthy v)) := by intro _; rfl) : PTD X e (tB ta) (toT (fTest f)) := (dt_val h he).imp (by
  rintro δ S Q ⟨p, h, q⟩
  exact ⟨_, asB_some h, p.1, rfl, q⟩)
end
/-! ### and, or, not -/
def fAnd (f g : FT) (δ : DEnv) (S : Sto) : Option (Bool × Sto) := (f δ S).bind fun p => if p.1 = true then g δ p.2 else some (false, p.2)
def fOr (f g : FT) (δ : DEnv) (S : Sto) : Option (Bool × Sto) := (f δ S).bind fun p => if p.1 = true then some (true, p.2) else g δ p.2
def fNot (f : FT) (δ : DEnv) (S : Sto) : Option (Bool × Sto) := (f δ S).bind fun p => some (!p.1, p.2)
def fAndV (f g : FE) (δ : DEnv) (S : Sto) : Option (D × Sto) := (asB (f δ S)).bind fun p => if p.1 = true then g δ p.2 else some (.bl false, p.2)
def fOrV (f g : FE) (δ : DEnv) (S : Sto) : Option (D × Sto) := (asB (f δ S)).bind fun p => if p.1 = true then some (.bl true, p.2) else g δ p.2
def fNotV (f : FE) (δ : DEnv) (S : Sto) : Option (D × Sto) := (asB (f δ S)).bind fun p => some (.bl (!p.1), p.2)
def fIfE (c : FT) (f g : FE) (δ : DEnv) (S : Sto) : Option (D × Sto) := (c δ S).bind fun p => if p.1 = true then f δ p.2 else g δ p.2
def asI : Option (D × Sto) → Option (Int × Sto)
  | some (.int b, S) => some (b, S)
  | _ => none
@[simp] theorem asI_int (b : Int) (S : Sto) : asI (some (.int b, S)) = some (b, S) := rfl
@[simp] theorem asI_none : asI none = none := rfl
theorem asI_some {o : Option (D × Sto)} {p : Int × Sto} (h : asI o = some p) : o = some (.int p.1, p.2) := by
  unfold asI at h
  split at h
  · cases h; rfl
  · cases h
def fNeg (f : FE) (δ : DEnv) (S : Sto) : Option (D × Sto) := (asI (f δ S)).bind fun p => some (.int (-p.1), p.2)
section
variable {X : Cx} {pos : Pos} {a b c : Expr} {rest : List Expr} {ta tb : TE} {f g : FE} {tA tB' : TT} {u v : FT}
theorem xw_and1 (h : PTD X a tA (toT u)) : PWD X (.BoolOp .And [a] pos) tA (toT u) := dw_and1 h
theorem xw_or1 (h : PTD X a tA (toT u)) : PWD X (.BoolOp .Or [a] pos) tA (toT u) := dw_or1 h
theorem xw_and (h : PTD X a tA (toT u)) (h2 : PWD X (.BoolOp .And (b :: rest) pos) tB' (toT v)) : PWD X (.BoolOp .And (a :: b :: rest) pos) (tAnd tA tB') (toT (fAnd u v)) := (dw_and h h2).imp (by
  rintro δ S Q ⟨p, h, q⟩
  simp only [fAnd, Option.bind_eq_some_iff] at h
  obtain ⟨k, h1, h2⟩ := h
  refine ⟨k, h1, ?_⟩
  by_cases hk : k.1 = true
  · rw [if_pos hk] at h2 ⊢
    exact ⟨p, h2, q⟩
  · rw [if_neg hk] at h2 ⊢
    cases h2
    exact q)
theorem xw_or (h : PTD X a tA (toT u)) (h2 : PWD X (.BoolOp .Or (b :: rest) pos) tB' (toT v)) : PWD X (.BoolOp .Or (a :: b :: rest) pos) (tOr tA tB') (toT (fOr u v)) := (dw_or h h2).imp (by
  rintro δ S Q ⟨p, h, q⟩
  simp only [fOr, Option.bind_eq_some_iff] at h
  obtain ⟨k, h1, h2⟩ := h
  refine ⟨k, h1, ?_⟩
  by_cases hk : k.1 = true
  · rw [if_pos hk] at h2 ⊢
    cases h2
    exact q
  · rw [if_neg hk] at h2 ⊢
    exact ⟨p, h2, q⟩)
theorem xt_w (h : PWD X a tA (toT u)) : PTD X a tA (toT u) := dt_w h
theorem xt_not (h : PTD X a tA (toT u)) : PTD X (.UnaryOp .Not a pos) (tNot tA) (toT (fNot u)) := (dt_not h).imp (by
  rintro δ S Q ⟨p, h, q⟩
  simp only [fNot, Option.bind_eq_some_iff] at h
  obtain ⟨k, h1, h2⟩ := h
  cases h2
  exact ⟨k, h1, q⟩)
theorem x_one {op} (h : PD X a ta (toE f)) : PD X (.BoolOp op [a] pos) ta (toE f) := d_one h
theorem x_and (h : PD X a ta (toE f)) (h2 : PD X (.BoolOp .And (b :: rest) pos) tb (toE g)) : PD X (.BoolOp .And (a :: b :: rest) pos) (tAndV ta tb) (toE (fAndV f g)) := (d_and h h2).imp (by
  rintro δ S Q ⟨p, h, q⟩
  simp only [fAndV, Option.bind_eq_some_iff] at h
  obtain ⟨k, h1, h2⟩ := h
  refine ⟨_, asB_some h1, k.1, rfl, ?_⟩
  by_cases hk : k.1 = true
  · rw [if_pos hk] at h2 ⊢
    exact ⟨p, h2, q⟩
  · rw [if_neg hk] at h2 ⊢
    cases h2
    exact q)
theorem x_or (h : PD X a ta (toE f)) (h2 : PD X (.BoolOp .Or (b :: rest) pos) tb (toE g)) : PD X (.BoolOp .Or (a :: b :: rest) pos) (tOrV ta tb) (toE (fOrV f g)) := (d_or h h2).imp (by
  rintro δ S Q ⟨p, h, q⟩
  simp only [fOrV, Option.bind_eq_some_iff] at h
  obtain ⟨k, h1, h2⟩ := h
  refine ⟨_, asB_some h1, k.1, rfl, ?_⟩
  by_cases hk : k.1 = true
  · rw [if_pos hk] at h2 ⊢
    cases h2
    exact q
  · rw [if_neg hk] at h2 ⊢
    exact ⟨p, h2, q⟩)
theorem x_not (h : PD X a ta (toE f)) : PD X (.UnaryOp .Not a pos) (tNotV ta) (toE (fNotV f)) := (d_not h).imp (by
  rintro δ S Q ⟨p, h, q⟩
  simp only [fNotV, Option.bind_eq_some_iff] at h
  obtain ⟨k, h1, h2⟩ := h
  cases h2
  exact ⟨_, asB_some h1, k.1, rfl, q⟩)
theorem x_ifExp (h : PTD X c tA (toT u)) (h1 : PD X a ta (toE f)) (h2 : PD X b tb (toE g)) : PD X (.IfExp c a b pos) (tIf tA ta tb) (toE (fIfE u f g)) := (d_ifExp h h1 h2).imp (by
  rintro δ S Q ⟨p, h, q⟩
  simp only [fIfE, Option.bind_eq_some_iff] at h
  obtain ⟨k, h1, h2⟩ := h
  refine ⟨k, h1, ?_⟩
  by_cases hk : k.1 = true
  · rw [if_pos hk] at h2 ⊢
    exact ⟨p, h2, q⟩
  · rw [if_neg hk] at h2 ⊢
    exact ⟨p, h2, q⟩)
theorem x_neg (h : PD X a ta (toE f)) : PD X (.UnaryOp .USub a pos) (tUn (rU fun i => .int (-i)) ta) (toE (fNeg f)) := (d_neg h).imp (by
  rintro δ S Q ⟨p, h, q⟩
  simp only [fNeg, Option.bind_eq_some_iff] at h
  obtain ⟨k, h1, h2⟩ := h
  cases h2
  exact ⟨_, asI_some h1, k.1, rfl, q⟩)
end
end DL

set_option Elab.async false
set_option linter.all false
set_option maxRecDepth 100000
set_option maxHeartbeats 1000000
namespace DL
open PySem L2 PyProof.Rows
/-! ### further rules of comparison -/
section
variable {X : Cx}
theorem range_all_true (n : Nat) : (List.range n).all (fun _ => true) = true := List.all_eq_true.mpr fun _ _ => rfl
def rEmp (K : PySem.W.Frag) (f : Bool → Bool) : R2 := fun x y H Q => ∃ a b xs, x = .ref a ∧ y = .ref b ∧ ((SqT K H a xs ∧ SqT K H b []) ∨ (SqL K H a xs ∧ SqL K H b [])) ∧ Q (.bl (f xs.isEmpty)) H
theorem emp_size {xs : List V} {its : List Value} (r : Vals xs its) : (its.toArray.size == 0) = xs.isEmpty := by
  cases r <;> simp
theorem op_eqEmp (hu : X.A.units + 64 < cLine) : OpR X (compareOp .Eq) (rEmp X.K id) := by
  intro pins s σ H x y v u Q I rx ry h
  obtain ⟨a, b, xs, rfl, rfl, h, q⟩ := h
  cases rx
  cases ry
  have fin : EP X pins σ Q (.bool xs.isEmpty) s := ⟨.bl _, H, I, rfl, q⟩
  rcases h with ⟨h1, h2⟩ | ⟨h1, h2⟩
  · obtain ⟨its, r, p, _⟩ := I.tuple h1
    obtain ⟨its2, r2, p2, _⟩ := I.tuple h2
    cases r2
    refine SeqAt.eq_tupleAt (e := fun _ => true) p p2 (by omega) (fun j _ hj => absurd hj (Nat.not_lt_zero j)) ?_
    have e : ((List.range (min its.toArray.size ([] : List Value).toArray.size)).all (fun _ => true) && its.toArray.size == ([] : List Value).toArray.size) = xs.isEmpty := by
      rw [range_all_true, Bool.true_and]
      exact emp_size r
    rw [e]
    exact fin
  · obtain ⟨its, r, p, _⟩ := I.list h1
    obtain ⟨its2, r2, p2, _⟩ := I.list h2
    cases r2
    cases r with
    | nil =>
      refine SeqAt.eq_listAt (e := fun _ => true) p.isList p2.isList rfl (by omega) (fun j _ hj => absurd hj (Nat.not_lt_zero j)) ?_
      exact fin
    | cons a b =>
      exact SeqAt.eq_list_lengthsAt p.isList p2.isList (by simp) (by omega) fin
theorem op_neEmp (hu : X.A.units + 64 < cLine) : OpR X (compareOp .NotEq) (rEmp X.K not) := by
  intro pins s σ H x y v u Q I rx ry h
  obtain ⟨a, b, xs, rfl, rfl, h, q⟩ := h
  cases rx
  cases ry
  have fin : EP X pins σ Q (.bool (!xs.isEmpty)) s := ⟨.bl _, H, I, rfl, q⟩
  rcases h with ⟨h1, h2⟩ | ⟨h1, h2⟩
  · obtain ⟨its, r, p, _⟩ := I.tuple h1
    obtain ⟨its2, r2, p2, _⟩ := I.tuple h2
    cases r2
    refine SeqAt.RcNeAt.tuples (e := fun _ => true) p p2 (by omega) (fun j _ hj => absurd hj (Nat.not_lt_zero j)) _ _ _ _ ?_
    have e : (!((List.range (min its.toArray.size ([] : List Value).toArray.size)).all (fun _ => true) && its.toArray.size == ([] : List Value).toArray.size)) = (!xs.isEmpty) := by
      rw [range_all_true, Bool.true_and]
      exact congrArg not (emp_size r)
    rw [e]
    exact fin
  · obtain ⟨its, r, p, _⟩ := I.list h1
    obtain ⟨its2, r2, p2, _⟩ := I.list h2
    cases r2
    cases r with
    | nil =>
      refine SeqAt.RcNeAt.lists (e := fun _ => true) p.isList p2.isList rfl (by omega) (fun j _ hj => absurd hj (Nat.not_lt_zero j)) _ _ _ _ ?_
      exact fin
    | cons a b =>
      exact SeqAt.RcNeAt.lists_lengths p.isList p2.isList (by simp) (by omega) _ _ _ _ fin
/-- a text among texts -/
def rInStrs (K : PySem.W.Frag) (f : Bool → Bool) : R2 := fun x y H Q => ∃ (z : Str) (b : Addr) (ys : List Str), x = .str z ∧ y = .ref b ∧ (SqT K H b (ys.map V.str) ∨ SqL K H b (ys.map V.str)) ∧ Q (.bl (f (ys.any (· == z)))) H
def eStr (z : Str) : Value → Bool
  | .str s _ => s == z
  | _ => false
theorem vals_strs {z : Str} : ∀ {ys : List Str} {its : List Value}, Vals (ys.map V.str) its → its.any (eStr z) = ys.any (· == z) ∧ ∀ y ∈ its, ∃ s t, y = Value.str s t
  | [], _, h => by cases h; exact ⟨rfl, fun y h => nomatch h⟩
  | y :: r, _, h => by
    cases h with
    | cons h1 h2 =>
      obtain ⟨t, rfl⟩ := h1
      obtain ⟨e1, e2⟩ := vals_strs (z := z) h2
      refine ⟨by rw [List.any_cons, List.any_cons, e1]; rfl, fun y hy => ?_⟩
      rcases List.mem_cons.mp hy with h | h
      · exact ⟨_, _, h⟩
      · exact e2 y h
theorem op_inStrs : OpR X (compareOp .In) (rInStrs X.K id) := by
  intro pins s σ H x y v u Q I rx ry h
  obtain ⟨z, b, ys, rfl, rfl, h, q⟩ := h
  obtain ⟨t, rfl⟩ := rx
  cases ry
  rcases h with h | h
  · obtain ⟨its, r, p, _⟩ := I.tuple h
    obtain ⟨e1, e2⟩ := vals_strs (z := z) r
    refine SeqAt.in_tupleAt (eStr z) p (fun y hy => ?_) ?_
    · obtain ⟨s', t', rfl⟩ := e2 y (by simpa using hy)
      exact SeqAt.EqAt.str_str s' t' z t
    · rw [← Array.any_toList, e1]
      exact ⟨.bl _, H, I, rfl, q⟩
  · obtain ⟨its, r, p, _⟩ := I.list h
    obtain ⟨e1, e2⟩ := vals_strs (z := z) r
    refine SeqAt.in_listAt (eStr z) p.isList (fun y hy => ?_) ?_
    · obtain ⟨s', t', rfl⟩ := e2 y (by simpa using hy)
      exact SeqAt.EqAt.str_str s' t' z t
    · rw [← Array.any_toList, e1]
      exact ⟨.bl _, H, I, rfl, q⟩
theorem op_notInStrs : OpR X (compareOp .NotIn) (rInStrs X.K not) := by
  intro pins s σ H x y v u Q I rx ry h
  obtain ⟨z, b, ys, rfl, rfl, h, q⟩ := h
  obtain ⟨t, rfl⟩ := rx
  cases ry
  rcases h with h | h
  · obtain ⟨its, r, p, _⟩ := I.tuple h
    obtain ⟨e1, e2⟩ := vals_strs (z := z) r
    refine SeqAt.notIn_tupleAt (eStr z) p (fun y hy => ?_) ?_
    · obtain ⟨s', t', rfl⟩ := e2 y (by simpa using hy)
      exact SeqAt.EqAt.str_str s' t' z t
    · rw [← Array.any_toList, e1]
      exact ⟨.bl _, H, I, rfl, q⟩
  · obtain ⟨its, r, p, _⟩ := I.list h
    obtain ⟨e1, e2⟩ := vals_strs (z := z) r
    refine SeqAt.notIn_listAt (eStr z) p.isList (fun y hy => ?_) ?_
    · obtain ⟨s', t', rfl⟩ := e2 y (by simpa using hy)
      exact SeqAt.EqAt.str_str s' t' z t
    · rw [← Array.any_toList, e1]
      exact ⟨.bl _, H, I, rfl, q⟩
end
/-! ### a pair (anything, int) among pairs (text, int) -/
theorem str_eq_declines_dict (b : Str) (u : Tok) (l : Addr) (dd : Option Addr) (es : Array DictEntry) (n : Nat) (sl : Array (Option Value)) :
    Meets (Builtin.«str.__eq__» ⟨[.str b u, .ref l], []⟩) (fun _ R s => s.heap.get? l = some { cls := .type "dict", dict := dd, data := .dict es n, slots := sl } ∧ R (.ok (.ret .notImplemented)) s) :=
  .of_wp fun prog w A R s h => by
    obtain ⟨hp, g, d, tk, os⟩ := s
    obtain ⟨hl, h⟩ := h
    wp_walk using wpAny_load hl
    exact ⟨_, rfl, h⟩
theorem dict_eq_declines_str (b : Str) (u : Tok) (l : Addr) (dd : Option Addr) (es : Array DictEntry) (n : Nat) (sl : Array (Option Value)) :
    Meets (Builtin.«dict.__eq__» ⟨[.ref l, .str b u], []⟩) (fun _ R s => s.heap.get? l = some { cls := .type "dict", dict := dd, data := .dict es n, slots := sl } ∧ R (.ok (.ret .notImplemented)) s) :=
  .of_wp fun prog w A R s h => by
    obtain ⟨hp, g, d, tk, os⟩ := s
    obtain ⟨hl, h⟩ := h
    wp_walk using wpAny_load hl
    refine wpAny_of_eq F.sub_str_dict ?_
    wp_walk
    exact ⟨_, rfl, h⟩
theorem eq_str_dict {A : Around} {s : Shared} {l : Addr} {dd : Option Addr} {es : Array DictEntry} {n : Nat} {sl : Array (Option Value)} (b : Str) (u : Tok) (ho : s.heap.get? l = some { cls := .type "dict", dict := dd, data := .dict es n, slots := sl }) (hu : A.units < cLine) : SeqAt.EqAt A s (.str b u) (.ref l) false := fun prog w E Q h => by
  unfold eqBool
  refine wpAny_holding ?_
  refine wpAny_ite_split (fun hab => absurd (eq_of_beq hab) nofun) (fun _ => ?_)
  refine wpAny_bind (SeqAt.rc_eq_decline_or (k := false) (typeIs_str s b u) ⟨_, ho, rfl⟩ (by decide) F.sub_dict_str F.slot_str_eq F.slot_dict_eq_refl
    (fun _ hq => call_meets F.slot_str_eq (typeIs_str s b u) F.entry_str_eq (F.args_str_eq_2 _ _) (str_eq_declines_dict b u l dd es n sl) ⟨ho, hq⟩)
    (fun _ hq => call_meets F.slot_dict_eq_refl ⟨_, ho, rfl⟩ F.entry_dict_eq (F.args_dict_eq_2 _ _) (dict_eq_declines_str b u l dd es n sl) ⟨ho, hq⟩)
    (fun _ hq => wpAny_of_eq (rfl : isSame (.str b u) (.ref l) = pure false) hq) (.inr hu) (wpAny_truthy_bool h))
/-- what may stand in a pair's first place -/
def HdOk (K : PySem.W.Frag) (H : Hp) : V → Prop
  | .non => True | .bl _ => True | .int _ => True | .str _ => True
  | .ref a => (∃ xs, SqT K H a xs) ∨ (∃ xs, SqL K H a xs) ∨ ∃ kvs, H a = some (.dK kvs)
  | _ => False
def hEq (s : Str) : V → Bool
  | .str z => s == z
  | _ => false
theorem hd_eq {X : Cx} {pins : List (Addr × Obj)} {σ : L2.St} {H : Hp} {s : Shared} {A : Around} (I : Inv X pins σ H s) (hu : A.units < cLine) {h : V} {v : Value} (ok : HdOk X.K H h) (r : RelV h v) (b : Str) (t : Tok) : SeqAt.EqAt A s (.str b t) v (hEq b h) := by
  cases h with
  | non => cases r; exact SeqAt.EqAt.str_none b t
  | bl k => cases r; exact SeqAt.EqAt.str_bool b t k
  | int i => obtain ⟨u, rfl⟩ := r; exact SeqAt.EqAt.str_int b t i u
  | str z => obtain ⟨u, rfl⟩ := r; exact SeqAt.EqAt.str_str b t z u
  | ref a =>
    cases r
    rcases ok with ⟨xs, h⟩ | ⟨xs, h⟩ | ⟨kvs, h⟩
    · obtain ⟨its, _, p, _⟩ := I.tuple h
      exact SeqAt.EqAt.str_tuple b t p hu
    · obtain ⟨its, _, p, _⟩ := I.list h
      exact SeqAt.EqAt.str_list b t p.isList hu
    · obtain ⟨_, ya, va, ra, ⟨⟨cls, dd, data, sl⟩, es, ep, ho, hx, hd, _⟩⟩ := (show ObjOk X.prog X.w H s.heap a (.dK kvs) from I.hok a _ h)
      have hc : cls = .type "dict" := hx.1
      simp only at hd
      subst hc hd
      exact eq_str_dict b t ho hu
  | _ => exact ok.elim
theorem tup_same {X : Cx} {pins : List (Addr × Obj)} {σ : L2.St} {H : Hp} {s : Shared} (I : Inv X pins σ H s) {c : Addr} {xs ys : List V} (h1 : SqT X.K H c xs) (h2 : SqT X.K H c ys) : ∃ its, Vals xs its ∧ Vals ys its := by
  obtain ⟨its, r, ⟨o, e, _, n, d⟩, _⟩ := I.tuple h1
  obtain ⟨its2, r2, ⟨o2, e2, _, n2, d2⟩, _⟩ := I.tuple h2
  rw [e] at e2
  cases e2
  rw [d] at d2
  have h : its.toArray = its2.toArray := by injection d2
  have h' : its = its2 := by simpa using congrArg Array.toList h
  subst h'
  exact ⟨its, r, r2⟩
theorem two_same {X : Cx} {pins : List (Addr × Obj)} {σ : L2.St} {H : Hp} {s : Shared} (I : Inv X pins σ H s) {c : Addr} {h : V} {n m : Int} {z : Str} (h1 : SqT X.K H c [h, .int n]) (h2 : SqT X.K H c [.str z, .int m]) : h = .str z ∧ n = m := by
  obtain ⟨its, r1, r2⟩ := tup_same I h1 h2
  cases r2 with
  | cons a2 b2 =>
    cases b2 with
    | cons c2 d2 =>
      cases d2
      obtain ⟨t, rfl⟩ := a2
      obtain ⟨t2, rfl⟩ := c2
      cases r1 with
      | cons a1 b1 =>
        cases b1 with
        | cons c1 d1 =>
          obtain ⟨t3, e3⟩ := c1
          cases e3
          refine ⟨?_, rfl⟩
          cases h <;> first | (obtain ⟨_, e⟩ := a1; cases e; done) | (obtain ⟨_, e⟩ := a1; cases e; rfl) | cases a1
def rInPrs (K : PySem.W.Frag) : R2 := fun x y H Q => ∃ (a b : Addr) (h : V) (n : Int) (qs : List (Addr × Str × Int)), x = .ref a ∧ y = .ref b ∧ SqT K H a [h, .int n] ∧ HdOk K H h ∧ SqT K H b (qs.map fun q => .ref q.1) ∧
  (∀ q ∈ qs, SqT K H q.1 [.str q.2.1, .int q.2.2]) ∧ Q (.bl (qs.any fun q => hEq q.2.1 h && q.2.2 == n)) H
theorem vals_refs {e : Value → Bool} {g : (Addr × Str × Int) → Bool} : ∀ {qs : List (Addr × Str × Int)} {its : List Value}, Vals (qs.map fun q => V.ref q.1) its → (∀ q ∈ qs, e (.ref q.1) = g q) → its.any e = qs.any g ∧ ∀ y ∈ its, ∃ q ∈ qs, y = Value.ref q.1
  | [], _, h, _ => by cases h; exact ⟨rfl, fun y h => nomatch h⟩
  | q :: r, _, h, he => by
    cases h with
    | cons h1 h2 =>
      cases h1
      obtain ⟨e1, e2⟩ := vals_refs h2 (fun q hq => he q (List.mem_cons_of_mem _ hq))
      refine ⟨by rw [List.any_cons, List.any_cons, e1, he q List.mem_cons_self], fun y hy => ?_⟩
      rcases List.mem_cons.mp hy with h | h
      · exact ⟨q, List.mem_cons_self, h⟩
      · obtain ⟨q', a, b⟩ := e2 y h
        exact ⟨q', List.mem_cons_of_mem _ a, b⟩
open Classical in
noncomputable def ePr (K : PySem.W.Frag) (H : Hp) (h : V) (n : Int) : Value → Bool
  | .ref c => decide (∃ s m, SqT K H c [.str s, .int m] ∧ (hEq s h && m == n) = true)
  | _ => false
theorem pr_eq {X : Cx} {pins : List (Addr × Obj)} {σ : L2.St} {H : Hp} {s : Shared} {A : Around} (I : Inv X pins σ H s) (hu : A.units + 3 < cLine) {h : V} {a c : Addr} {n m : Int} {z : Str} (ok : HdOk X.K H h) (h1 : SqT X.K H a [h, .int n]) (h2 : SqT X.K H c [.str z, .int m]) :
    SeqAt.EqAt A s (.ref c) (.ref a) (hEq z h && m == n) := by
  by_cases hca : c = a
  · subst hca
    obtain ⟨rfl, rfl⟩ := two_same I h1 h2
    have e : (hEq z (.str z) && n == n) = true := by simp [hEq]
    rw [e]
    exact SeqAt.EqAt.same _
  · obtain ⟨its, r, p, _⟩ := I.tuple h1
    obtain ⟨its2, r2, p2, _⟩ := I.tuple h2
    cases r2 with
    | cons a2 b2 =>
      cases b2 with
      | cons c2 d2 =>
        cases d2
        obtain ⟨t, rfl⟩ := a2
        obtain ⟨t2, rfl⟩ := c2
        cases r with
        | cons a1 b1 =>
          cases b1 with
          | cons c1 d1 =>
            cases d1
            obtain ⟨t3, rfl⟩ := c1
            have key := SeqAt.RcAt.tuples (A := A) (e := fun j => if j = 0 then hEq z h else m == n) p2 p (by omega) (fun j hj hj2 => by
              have hj' : j < 2 := hj
              match j, hj' with
              | 0, _ => exact hd_eq I (by show A.units + 1 < cLine; omega) ok a1 z t
              | 1, _ => exact SeqAt.EqAt.int_int m t2 n t3)
            refine SeqAt.EqAt.of_refs hca ?_
            have e : ((List.range (min 2 2)).all (fun j => if j = 0 then hEq z h else m == n) && (2 : Nat) == 2) = (hEq z h && m == n) := by
              have : List.range (min 2 2) = [0, 1] := rfl
              rw [this]
              simp
            rw [← e]
            exact key
open Classical in
theorem op_inPrs {X : Cx} (hu : X.A.units + 65 < cLine) : OpR X (compareOp .In) (rInPrs X.K) := by
  intro pins s σ H x y v u Q I rx ry h
  obtain ⟨a, b, h, n, qs, rfl, rfl, h1, ok, h2, h3, q⟩ := h
  cases rx
  cases ry
  obtain ⟨its, r, p, _⟩ := I.tuple h2
  have he : ∀ q ∈ qs, ePr X.K H h n (.ref q.1) = (hEq q.2.1 h && q.2.2 == n) := fun q hq => by
    unfold ePr
    cases e : (hEq q.2.1 h && q.2.2 == n) with
    | true => exact decide_eq_true ⟨_, _, h3 q hq, e⟩
    | false =>
      refine decide_eq_false ?_
      rintro ⟨z, m, hz, ez⟩
      obtain ⟨e1, e2⟩ := two_same I hz (h3 q hq)
      cases e1
      subst e2
      rw [e] at ez
      cases ez
  obtain ⟨e1, e2⟩ := vals_refs (e := ePr X.K H h n) (g := fun q => hEq q.2.1 h && q.2.2 == n) r he
  refine SeqAt.in_tupleAt (ePr X.K H h n) p (fun y hy => ?_) ?_
  · obtain ⟨q, hq, rfl⟩ := e2 y (by simpa using hy)
    rw [he q hq]
    exact pr_eq I (by show X.A.units + 1 + 3 < cLine; omega) ok h1 (h3 q hq)
  · rw [← Array.any_toList, e1]
    exact ⟨.bl _, H, I, rfl, q⟩
end DL

set_option Elab.async false
set_option linter.all false
set_option maxRecDepth 100000
set_option maxHeartbeats 1000000
namespace DL
open PySem L2 PyProof.Rows
/-! ### operators by functions -/
open Classical in
noncomputable def oI (C : Int → Int → Prop) (g : Int → Int → D) (x y : D) (S : Sto) : Option (D × Sto) := match x, y with
  | .int i, .int j => if C i j then some (g i j, S) else none
  | _, _ => none
def oI0 (g : Int → Int → D) (x y : D) (S : Sto) : Option (D × Sto) := match x, y with
  | .int i, .int j => some (g i j, S)
  | _, _ => none
theorem oI_int {C : Int → Int → Prop} {g : Int → Int → D} {i j : Int} {S : Sto} (h : C i j) : oI C g (.int i) (.int j) S = some (g i j, S) := by
  unfold oI
  exact if_pos h
def oAdd (x y : D) (S : Sto) : Option (D × Sto) := match x, y with
  | .int i, .int j => some (.int (i + j), S)
  | .tup a, .tup b => if a.length + b.length ≤ 100000 then some (.tup (a ++ b), S) else none
  | .str a, .str b => if a.length + b.length ≤ 100000 then some (.str (a ++ b), S) else none
  | .loc i, .loc j => match S[i]?, S[j]? with
    | some (.lst a), some (.lst b) => if a.length + b.length ≤ 100000 then some (.loc S.length, S ++ [.lst (a ++ b)]) else none
    | _, _ => none
  | _, _ => none
open Classical in
noncomputable def oMul (x y : D) (S : Sto) : Option (D × Sto) := match x, y with
  | .int i, .int j => if CMul i j then some (.int (i * j), S) else none
  | .tup a, .int k => if a ≠ [] ∧ 0 ≤ k ∧ k ≤ 2000 ∧ a.length ≤ 40 then some (.tup (List.replicate k.toNat a).flatten, S) else none
  | .loc i, .int k => match S[i]? with
    | some (.lst a) => if -1000 ≤ k ∧ k ≤ 1000 ∧ a.length ≤ 100 then some (.loc S.length, S ++ [.lst (List.replicate k.toNat a).flatten]) else none
    | _ => none
  | _, _ => none
@[simp] theorem oMul_int {i j : Int} {S : Sto} (h : CMul i j) : oMul (.int i) (.int j) S = some (.int (i * j), S) := by
  unfold oMul
  simp [h]
def emp (S : Sto) : D → D → Option Bool
  | .tup a, .tup [] => some a.isEmpty
  | .loc i, .loc j => match S[i]?, S[j]? with
    | some (.lst a), some (.lst []) => some a.isEmpty
    | _, _ => none
  | _, _ => none
def oEq (f : Bool → Bool) (x y : D) (S : Sto) : Option (D × Sto) := match emp S x y with
  | some b => some (.bl (f b), S)
  | none => match scD x y with
    | some b => some (.bl (f b), S)
    | none => none
@[simp] theorem oEq_int {f : Bool → Bool} {i j : Int} {S : Sto} : oEq f (.int i) (.int j) S = some (.bl (f (decide (i = j))), S) := rfl
@[simp] theorem oEq_str {f : Bool → Bool} {i j : Str} {S : Sto} : oEq f (.str i) (.str j) S = some (.bl (f (decide (i = j))), S) := rfl
@[simp] theorem oEq_nilT {f : Bool → Bool} {a : List D} {S : Sto} : oEq f (.tup a) (.tup []) S = some (.bl (f a.isEmpty), S) := rfl
@[simp] def asStrs : List D → Option (List Str)
  | [] => some []
  | .str s :: r => (asStrs r).map (s :: ·)
  | _ => none
@[simp] theorem asStrs_map : ∀ ys : List Str, asStrs (ys.map D.str) = some ys
  | [] => rfl
  | y :: r => by simp [asStrs_map r]
@[simp] def asPrs : List D → Option (List (Str × Int))
  | [] => some []
  | .tup [.str s, .int m] :: r => (asPrs r).map ((s, m) :: ·)
  | _ => none
@[simp] def hEqD (s : Str) : D → Bool
  | .str z => s == z
  | _ => false
@[simp] def hOkD (S : Sto) : D → Bool
  | .loc i => (S[i]?).isSome
  | .scr _ => false
  | .exc _ _ _ => false
  | _ => true
def oIn (x y : D) (S : Sto) : Option (D × Sto) := match x, y with
  | .str w, .str z => match w.cps.toList with
    | [c] => some (.bl (decide (c ∈ z.cps.toList)), S)
    | _ => none
  | .str s, .tup ds => (asStrs ds).map fun ys => (.bl (ys.any (· == s)), S)
  | .str s, .loc i => match S[i]? with
    | some (.lst ds) => (asStrs ds).map fun ys => (.bl (ys.any (· == s)), S)
    | _ => none
  | .tup [h, .int n], .tup ds => if hOkD S h = true then (asPrs ds).map fun ys => (.bl (ys.any fun y => hEqD y.1 h && y.2 == n), S) else none
  | _, _ => none
def oNotIn (x y : D) (S : Sto) : Option (D × Sto) := match x, y with
  | .str w, .str z => match w.cps.toList with
    | [c] => some (.bl (!decide (c ∈ z.cps.toList)), S)
    | _ => none
  | .str s, .tup ds => (asStrs ds).map fun ys => (.bl (!ys.any (· == s)), S)
  | .str s, .loc i => match S[i]? with
    | some (.lst ds) => (asStrs ds).map fun ys => (.bl (!ys.any (· == s)), S)
    | _ => none
  | _, _ => none
def oIs (f : Bool → Bool) (x y : D) (S : Sto) : Option (D × Sto) := match y with
  | .non => some (.bl (f (isNonD x)), S)
  | _ => none
def oIx (x y : D) (S : Sto) : Option (D × Sto) := match x, y with
  | .tup ds, .int i => (atI ds i).bind fun d => some (d, S)
  | .loc l, .int i => match S[l]? with
    | some (.lst ds) => (atI ds i).bind fun d => some (d, S)
    | _ => none
  | .str z, .int i => if z.length ≤ 100000 then (atI z.cps.toList i).bind fun c => some (.str ⟨#[c]⟩, S) else none
  | _, _ => none
section
variable {X : Cx}
theorem eo_I {C : Int → Int → Prop} {g : Int → Int → D} : ∀ x y S Q, toR (oI C g) x y S Q → rdI C g x y S Q := by
  rintro x y S Q ⟨p, h, q⟩
  unfold oI at h
  split at h
  · split at h
    · cases h
      exact ⟨_, _, rfl, rfl, by assumption, q⟩
    · cases h
  · cases h
theorem eo_I0 {g : Int → Int → D} : ∀ x y S Q, toR (oI0 g) x y S Q → rdI0 g x y S Q := by
  rintro x y S Q ⟨p, h, q⟩
  unfold oI0 at h
  split at h
  · cases h
    exact ⟨_, _, rfl, rfl, q⟩
  · cases h
theorem xo_add : OpD X (binaryOp .Add) (vAdd X.K) (toR oAdd) := od_add.imp' (by
  rintro x y S Q ⟨p, h, q⟩
  unfold oAdd at h
  split at h
  · cases h; exact q
  · split at h
    · cases h; exact ⟨by assumption, q⟩
    · cases h
  · split at h
    · cases h; exact ⟨by assumption, q⟩
    · cases h
  · split at h
    · split at h
      · cases h
        exact ⟨_, _, by assumption, by assumption, by assumption, q⟩
      · cases h
    · cases h
  · cases h)
theorem xo_mul : OpD X (binaryOp .Mult) (vMul X.K) (toR oMul) := od_mul.imp' (by
  rintro x y S Q ⟨p, h, q⟩
  unfold oMul at h
  split at h
  · split at h
    · cases h; exact ⟨by assumption, q⟩
    · cases h
  · split at h
    · rename_i hh
      cases h; exact ⟨hh.1, hh.2.1, hh.2.2.1, hh.2.2.2, q⟩
    · cases h
  · split at h
    · split at h
      · rename_i hs hh
        cases h; exact ⟨_, hs, hh.1, hh.2.1, hh.2.2, q⟩
      · cases h
    · cases h
  · cases h)
theorem xo_sub : OpD X (binaryOp .Sub) (rI0 fun i j => .int (i - j)) (toR (oI0 fun i j => .int (i - j))) := od_sub.imp' eo_I0
theorem xo_mod : OpD X (binaryOp .Mod) (rI (fun _ j => 0 < j) fun i j => .int (i % j)) (toR (oI (fun _ j => 0 < j) fun i j => .int (i % j))) := od_mod.imp' eo_I
theorem xo_fdiv : OpD X (binaryOp .FloorDiv) (rI CDiv fun i j => .int (i / j)) (toR (oI CDiv fun i j => .int (i / j))) := od_fdiv.imp' eo_I
theorem xo_pow : OpD X (binaryOp .Pow) (rI CPow fun i j => .int (i ^ j.toNat)) (toR (oI CPow fun i j => .int (i ^ j.toNat))) := od_pow.imp' eo_I
theorem xo_lt : OpD X (compareOp .Lt) (rI0 fun i j => .bl (decide (i < j))) (toR (oI0 fun i j => .bl (decide (i < j)))) := od_lt.imp' eo_I0
theorem xo_le : OpD X (compareOp .LtE) (rI0 fun i j => .bl (decide (i ≤ j))) (toR (oI0 fun i j => .bl (decide (i ≤ j)))) := od_le.imp' eo_I0
theorem xo_gt : OpD X (compareOp .Gt) (rI0 fun i j => .bl (decide (j < i))) (toR (oI0 fun i j => .bl (decide (j < i)))) := od_gt.imp' eo_I0
theorem xo_ge : OpD X (compareOp .GtE) (rI0 fun i j => .bl (decide (j ≤ i))) (toR (oI0 fun i j => .bl (decide (j ≤ i)))) := od_ge.imp' eo_I0
theorem xo_is : OpD X (compareOp .Is) rIsN (toR (oIs id)) := od_is.imp' (by
  rintro x y S Q ⟨p, h, q⟩
  unfold oIs at h
  split at h
  · cases h; exact ⟨rfl, q⟩
  · cases h)
theorem xo_isnot : OpD X (compareOp .IsNot) rNotN (toR (oIs not)) := od_isnot.imp' (by
  rintro x y S Q ⟨p, h, q⟩
  unfold oIs at h
  split at h
  · cases h; exact ⟨rfl, q⟩
  · cases h)
theorem emp_ok {K : PySem.W.Frag} {H : Hp} {m : Mp} {S : Sto} {x y : D} {vx vy : V} {b : Bool} {f : Bool → Bool} {Q : VK} (R : Rel K H m S) (rx : Dv K H m vx x) (ry : Dv K H m vy y) (h : emp S x y = some b) (q : Q (.bl (f b)) H) : rEmp K f vx vy H Q := by
  unfold emp at h
  split at h
  · cases h
    cases rx with
    | tup s1 d1 =>
      cases ry with
      | tup s2 d2 =>
        cases d2
        refine ⟨_, _, _, rfl, rfl, .inl ⟨s1, s2⟩, ?_⟩
        cases d1 <;> exact q
  · split at h
    · rename_i h1 h2
      cases h
      obtain ⟨p1, vs1, rfl, _, hH1, d1⟩ := R.lst rx h1
      obtain ⟨p2, vs2, rfl, _, hH2, d2⟩ := R.lst ry h2
      cases d2
      refine ⟨_, _, _, rfl, rfl, .inr ⟨SqL.of hH1, SqL.of hH2⟩, ?_⟩
      cases d1 <;> exact q
    · cases h
  · cases h
def vEqF (K : PySem.W.Frag) : R2 := fun x y H Q => rEmp K id x y H Q ∨ rEq x y H Q
def vNeF (K : PySem.W.Frag) : R2 := fun x y H Q => rEmp K not x y H Q ∨ rNe x y H Q
theorem xo_eq (hu : X.A.units + 64 < cLine) : OpD X (compareOp .Eq) (vEqF X.K) (toR (oEq id)) := ⟨(op_eqEmp hu).or op_eq, fun H m S x y vx vy Q Q' R rx ry ⟨p, h, q⟩ c => by
  unfold oEq at h
  split at h
  · rename_i b hb
    cases h
    exact .inl (emp_ok (f := id) R rx ry hb (c.same R q (.bl _)))
  · split at h
    · rename_i b hb
      cases h
      obtain ⟨h1, h2⟩ := scD_ok hb rx ry
      exact .inr ⟨h1, by rw [h2]; exact c.same R q (.bl b)⟩
    · cases h⟩
theorem xo_ne (hu : X.A.units + 64 < cLine) : OpD X (compareOp .NotEq) (vNeF X.K) (toR (oEq not)) := ⟨(op_neEmp hu).or op_ne, fun H m S x y vx vy Q Q' R rx ry ⟨p, h, q⟩ c => by
  unfold oEq at h
  split at h
  · rename_i b hb
    cases h
    exact .inl (emp_ok (f := not) R rx ry hb (c.same R q (.bl _)))
  · split at h
    · rename_i b hb
      cases h
      obtain ⟨h1, h2⟩ := scD_ok hb rx ry
      exact .inr ⟨h1, by rw [h2]; exact c.same R q (.bl _)⟩
    · cases h⟩
theorem strs_vs {K : PySem.W.Frag} {H : Hp} {m : Mp} : ∀ {ds : List D} {vs : List V} {ys : List Str}, DvA K H m vs ds → asStrs ds = some ys → vs = ys.map V.str
  | [], _, _, r, h => by cases r; cases h; rfl
  | .str s :: ds, _, _, r, h => by
    cases r with
    | cons r1 r2 =>
      cases r1
      simp only [asStrs, Option.map_eq_some_iff] at h
      obtain ⟨zs, h1, rfl⟩ := h
      rw [strs_vs r2 h1]
      rfl
  | .non :: _, _, _, _, h => by cases h
  | .bl _ :: _, _, _, _, h => by cases h
  | .int _ :: _, _, _, _, h => by cases h
  | .tup _ :: _, _, _, _, h => by cases h
  | .loc _ :: _, _, _, _, h => by cases h
  | .scr _ :: _, _, _, _, h => by cases h
theorem prs_vs {K : PySem.W.Frag} {H : Hp} {m : Mp} : ∀ {ds : List D} {vs : List V} {ys : List (Str × Int)}, DvA K H m vs ds → asPrs ds = some ys → ∃ qs : List (Addr × Str × Int), vs = qs.map (fun q => .ref q.1) ∧ (∀ q ∈ qs, SqT K H q.1 [.str q.2.1, .int q.2.2]) ∧ qs.map (·.2) = ys
  | [], _, _, r, h => by cases r; cases h; exact ⟨[], rfl, fun q h => absurd h List.not_mem_nil, rfl⟩
  | d :: ds, _, _, r, h => by
    unfold asPrs at h
    split at h
    · rename_i e; cases e
    · rename_i s n r' e
      cases e
      cases r with
      | cons r1 r2 =>
        simp only [Option.map_eq_some_iff] at h
        obtain ⟨zs, h1, rfl⟩ := h
        obtain ⟨qs, e1, e2, e3⟩ := prs_vs r2 h1
        cases r1 with
        | @tup a _ _ s1 d1 =>
          cases d1 with
          | cons a1 b1 =>
            cases b1 with
            | cons a2 b2 =>
              cases b2
              cases a1
              cases a2
              refine ⟨(a, _, _) :: qs, by rw [e1]; rfl, fun q hq => ?_, by rw [List.map_cons, e3]⟩
              rcases List.mem_cons.mp hq with h | h
              · rw [h]; exact s1
              · exact e2 q h
    · cases h
theorem hd_ok {K : PySem.W.Frag} {H : Hp} {m : Mp} {S : Sto} {d : D} {v : V} (R : Rel K H m S) (r : Dv K H m v d) (h : hOkD S d = true) : HdOk K H v ∧ ∀ s, hEq s v = hEqD s d := by
  cases r with
  | non => exact ⟨trivial, fun _ => rfl⟩
  | bl => exact ⟨trivial, fun _ => rfl⟩
  | int => exact ⟨trivial, fun _ => rfl⟩
  | str => exact ⟨trivial, fun _ => rfl⟩
  | tup s1 d1 => exact ⟨.inl ⟨_, s1⟩, fun _ => rfl⟩
  | loc e =>
    simp only [hOkD, Option.isSome_iff_exists] at h
    obtain ⟨o, ho⟩ := h
    have := R.ob _ _ _ e ho
    cases o with
    | lst ds => obtain ⟨vs, h1, _⟩ := this; exact ⟨.inr (.inl ⟨_, SqL.of h1⟩), fun _ => rfl⟩
    | dct kvs => obtain ⟨vs, h1, _⟩ := this; exact ⟨.inr (.inr ⟨_, h1⟩), fun _ => rfl⟩
  | scr _ => cases h
  | exc _ _ => cases h
def vInF (K : PySem.W.Frag) : R2 := fun x y H Q => rInS x y H Q ∨ (rInStrs K id x y H Q ∨ rInPrs K x y H Q)
def vNotInF (K : PySem.W.Frag) : R2 := fun x y H Q => rNotInS x y H Q ∨ rInStrs K not x y H Q
theorem one_sign {w : Str} {c : Nat} (h : w.cps.toList = [c]) : w = ⟨#[c]⟩ := by
  obtain ⟨a⟩ := w
  have : a = #[c] := by
    apply Array.toList_inj.mp
    exact h
  rw [this]
theorem xo_in (hu : X.A.units + 65 < cLine) : OpD X (compareOp .In) (vInF X.K) (toR oIn) := ⟨op_inS.or (op_inStrs.or (op_inPrs hu)), fun H m S x y vx vy Q Q' R rx ry ⟨p, h, q⟩ c => by
  unfold oIn at h
  split at h
  · split at h
    · rename_i hc
      cases h
      have := one_sign hc
      subst this
      cases rx
      cases ry
      exact .inl ⟨_, _, rfl, rfl, c.same R q (.bl _)⟩
    · cases h
  · simp only [Option.map_eq_some_iff] at h
    obtain ⟨ys, h1, rfl⟩ := h
    cases rx
    cases ry with
    | tup s1 d1 =>
      have := strs_vs d1 h1
      subst this
      exact .inr (.inl ⟨_, _, ys, rfl, rfl, .inl s1, c.same R q (.bl _)⟩)
  · split at h
    · rename_i hs
      simp only [Option.map_eq_some_iff] at h
      obtain ⟨ys, h1, rfl⟩ := h
      cases rx
      obtain ⟨p1, vs1, rfl, _, hH1, d1⟩ := R.lst ry hs
      have := strs_vs d1 h1
      subst this
      exact .inr (.inl ⟨_, _, ys, rfl, rfl, .inr (SqL.of hH1), c.same R q (.bl _)⟩)
    · cases h
  · split at h
    · rename_i hk
      simp only [Option.map_eq_some_iff] at h
      obtain ⟨ys, h1, rfl⟩ := h
      cases ry with
      | tup s2 d2 =>
        cases rx with
        | tup s1 d1 =>
          cases d1 with
          | cons a1 b1 =>
            cases b1 with
            | cons a2 b2 =>
              cases b2
              cases a2
              obtain ⟨qs, e1, e2, e3⟩ := prs_vs d2 h1
              subst e1
              obtain ⟨k1, k2⟩ := hd_ok R a1 hk
              refine .inr (.inr ⟨_, _, _, _, qs, rfl, rfl, s1, k1, s2, e2, ?_⟩)
              have e := c.same R q (.bl _)
              rw [← e3, List.any_map] at e
              have k3 : ∀ n : Int, (fun q : Addr × Str × Int => hEq q.2.1 _ && q.2.2 == n) = ((fun y : Str × Int => hEqD y.1 _ && y.2 == n) ∘ fun x => x.2) := fun n => funext fun q => by rw [k2]; rfl
              rw [k3]
              exact e
    · cases h
  · cases h⟩
theorem xo_notin : OpD X (compareOp .NotIn) (vNotInF X.K) (toR oNotIn) := ⟨op_notInS.or op_notInStrs, fun H m S x y vx vy Q Q' R rx ry ⟨p, h, q⟩ c => by
  unfold oNotIn at h
  split at h
  · split at h
    · rename_i hc
      cases h
      have := one_sign hc
      subst this
      cases rx
      cases ry
      exact .inl ⟨_, _, rfl, rfl, c.same R q (.bl _)⟩
    · cases h
  · simp only [Option.map_eq_some_iff] at h
    obtain ⟨ys, h1, rfl⟩ := h
    cases rx
    cases ry with
    | tup s1 d1 =>
      have := strs_vs d1 h1
      subst this
      exact .inr ⟨_, _, ys, rfl, rfl, .inl s1, c.same R q (.bl _)⟩
  · split at h
    · rename_i hs
      simp only [Option.map_eq_some_iff] at h
      obtain ⟨ys, h1, rfl⟩ := h
      cases rx
      obtain ⟨p1, vs1, rfl, _, hH1, d1⟩ := R.lst ry hs
      have := strs_vs d1 h1
      subst this
      exact .inr ⟨_, _, ys, rfl, rfl, .inr (SqL.of hH1), c.same R q (.bl _)⟩
    · cases h
  · cases h⟩
end
end DL

set_option Elab.async false
set_option linter.all false
set_option maxRecDepth 100000
set_option maxHeartbeats 1000000
namespace DL
open PySem L2 PyProof.Rows
/-! ### items, slices, built-ins, calls -/
def fNoPart (δ : DEnv) (S : Sto) : Option (Option Int × Sto) := some (none, S)
def fPart (f : FE) (δ : DEnv) (S : Sto) : Option (Option Int × Sto) := (asI (f δ S)).bind fun p => some (some p.1, p.2)
def oSl (x : D) (lo hi : Option Int) (S : Sto) : Option (D × Sto) := match x with
  | .tup ds => some (.tup (cutD ds lo hi), S)
  | .loc i => match S[i]? with
    | some (.lst ds) => some (.loc S.length, S ++ [.lst (cutD ds lo hi)])
    | _ => none
  | .scr ns => some (.loc S.length, S ++ [.lst (cutD (ns.map .int) lo hi)])
  | _ => none
def fSl (f : FE) (l u : FO) (δ : DEnv) (S : Sto) : Option (D × Sto) := (f δ S).bind fun p => (l δ p.2).bind fun q => (u δ q.2).bind fun r => oSl p.1 q.1 r.1 r.2
def fRevL (f : FE) (δ : DEnv) (S : Sto) : Option (D × Sto) := (f δ S).bind fun p => match p.1 with
  | .loc i => match p.2[i]? with
    | some (.lst ds) => some (.loc p.2.length, p.2 ++ [.lst ds.reverse])
    | _ => none
  | _ => none
abbrev FB := List D → Sto → Option (D × Sto)
def fCB (b : FB) (g : FA) (δ : DEnv) (S : Sto) : Option (D × Sto) := (g δ S).bind fun p => b p.1 p.2
def bLen (xs : List D) (S : Sto) : Option (D × Sto) := match xs with
  | [.tup ds] => some (.int ds.length, S)
  | [.str z] => if z.length ≤ 100000 then some (.int z.length, S) else none
  | [.loc i] => match S[i]? with
    | some (.lst ds) => some (.int ds.length, S)
    | _ => none
  | _ => none
def bAbs (xs : List D) (S : Sto) : Option (D × Sto) := match xs with
  | [.int i] => some (.int (if i < 0 then -i else i), S)
  | _ => none
def bInt (xs : List D) (S : Sto) : Option (D × Sto) := match xs with
  | [.int i] => some (.int i, S)
  | [.bl k] => some (.int (if k then 1 else 0), S)
  | _ => none
@[simp] def asInts : List D → Option (List Int)
  | [] => some []
  | .int s :: r => (asInts r).map (s :: ·)
  | _ => none
@[simp] def asBls : List D → Option (List Bool)
  | [] => some []
  | .bl s :: r => (asBls r).map (s :: ·)
  | _ => none
theorem asInts_map : ∀ ys : List Int, asInts (ys.map D.int) = some ys
  | [] => rfl
  | y :: r => by simp [asInts_map r]
theorem asBls_map : ∀ ys : List Bool, asBls (ys.map D.bl) = some ys
  | [] => rfl
  | y :: r => by simp [asBls_map r]
theorem ints_of : ∀ {ds : List D} {ys : List Int}, asInts ds = some ys → ds = ys.map D.int
  | [], _, h => by cases h; rfl
  | .int s :: ds, _, h => by
    simp only [asInts, Option.map_eq_some_iff] at h
    obtain ⟨zs, h1, rfl⟩ := h
    rw [ints_of h1]
    rfl
  | .non :: _, _, h => by cases h
  | .bl _ :: _, _, h => by cases h
  | .str _ :: _, _, h => by cases h
  | .tup _ :: _, _, h => by cases h
  | .loc _ :: _, _, h => by cases h
  | .scr _ :: _, _, h => by cases h
theorem bls_of : ∀ {ds : List D} {ys : List Bool}, asBls ds = some ys → ds = ys.map D.bl
  | [], _, h => by cases h; rfl
  | .bl s :: ds, _, h => by
    simp only [asBls, Option.map_eq_some_iff] at h
    obtain ⟨zs, h1, rfl⟩ := h
    rw [bls_of h1]
    rfl
  | .non :: _, _, h => by cases h
  | .int _ :: _, _, h => by cases h
  | .str _ :: _, _, h => by cases h
  | .tup _ :: _, _, h => by cases h
  | .loc _ :: _, _, h => by cases h
  | .scr _ :: _, _, h => by cases h
def bSum (xs : List D) (S : Sto) : Option (D × Sto) := match xs with
  | [.loc i] => match S[i]? with
    | some (.lst ds) => (asInts ds).bind fun ns => some (.int ns.sum, S)
    | _ => none
  | _ => none
def bAll (xs : List D) (S : Sto) : Option (D × Sto) := match xs with
  | [.loc i] => match S[i]? with
    | some (.lst ds) => (asBls ds).bind fun ns => some (.bl (ns.all id), S)
    | _ => none
  | _ => none
def bTupleOf (xs : List D) (S : Sto) : Option (D × Sto) := match xs with
  | [.loc i] => match S[i]? with
    | some (.lst ds) => some (.tup ds, S)
    | _ => none
  | [.tup ds] => some (.tup ds, S)
  | _ => none
def bListOf (xs : List D) (S : Sto) : Option (D × Sto) := match xs with
  | [.loc i] => match S[i]? with
    | some (.lst ds) => some (.loc S.length, S ++ [.lst ds])
    | _ => none
  | [.tup ds] => some (.loc S.length, S ++ [.lst ds])
  | _ => none
mutual
theorem PyOf.det {S : Sto} : ∀ (p : PyData) (d : D) (q : PyData), PyOf S d p → PyOf S d q → p = q
  | .none, _, _, h, h2 => by cases h; cases h2; rfl
  | .bool b, _, _, h, h2 => by cases h; cases h2; rfl
  | .int i, _, _, h, h2 => by cases h; cases h2; rfl
  | .str x, _, _, h, h2 => by cases h; cases h2; rfl
  | .tuple ps, _, _, h, h2 => by
    cases h with
    | tup a =>
      cases h2 with
      | tup b => rw [PyOfA.det ps _ _ a b]
  | .list ps, _, _, h, h2 => by
    cases h with
    | lst e a =>
      cases h2 with
      | lst e2 b =>
        rw [e] at e2
        cases e2
        rw [PyOfA.det ps _ _ a b]
  | .dict kvs, _, _, h, h2 => by cases h
theorem PyOfA.det {S : Sto} : ∀ (p : List PyData) (d : List D) (q : List PyData), PyOfA S d p → PyOfA S d q → p = q
  | [], _, _, h, h2 => by cases h; cases h2; rfl
  | p :: ps, _, _, h, h2 => by
    cases h with
    | cons a b =>
      cases h2 with
      | cons a2 b2 => rw [PyOf.det p _ _ a a2, PyOfA.det ps _ _ b b2]
end
def Shows (S : Sto) (d : D) (p : PyData) : Prop := PyOf S d p ∧ p.showable = true ∧ p.hasDict = false ∧ p.shown.length ≤ sizeLine ∧ p.depth ≤ 60
open Classical in
noncomputable def bRepr (xs : List D) (S : Sto) : Option (D × Sto) := match xs with
  | [d] => if h : ∃ p, Shows S d p then some (.str h.choose.shown, S) else none
  | _ => none
open Classical in
theorem bRepr_eq {S : Sto} {d : D} {p : PyData} (h : Shows S d p) : bRepr [d] S = some (.str p.shown, S) := by
  have hh : ∃ p, Shows S d p := ⟨p, h⟩
  show (if h : ∃ p, Shows S d p then some (D.str h.choose.shown, S) else none) = _
  rw [dif_pos hh, PyOf.det _ _ _ hh.choose_spec.1 h.1]
def fIsi (T : String) (f : FE) (δ : DEnv) (S : Sto) : Option (D × Sto) := (f δ S).bind fun p => (kitB (tyD p.2 p.1) T).bind fun b => some (.bl b, p.2)
def fCall (c : Fn) (g : FA) (δ : DEnv) (S : Sto) : Option (D × Sto) := (g δ S).bind fun p => c p.1 p.2
section
variable {X : Cx} {pos p : Pos} {a b : Expr} {e : Expr} {es : List Expr} {te ta tb : TE} {f g : FE} {tA : TA} {u : FA} {x : Str}
theorem x_ix (h1 : PD X a ta (toE f)) (h2 : PD X b tb (toE g)) (hs : PlainIx b) : PD X (.Subscript a b pos) (tOp (rIx X.K) ta tb) (toE (fOp oIx f g)) := (d_ix h1 h2 hs).imp (by
  rintro δ S Q ⟨p, h, q⟩
  simp only [fOp, Option.bind_eq_some_iff] at h
  obtain ⟨a, h1, b, h2, h3⟩ := h
  refine ⟨a, h1, b, h2, ?_⟩
  unfold oIx at h3
  unfold rdIx
  split at h3
  · simp only [Option.bind_eq_some_iff] at h3
    obtain ⟨d, e1, e2⟩ := h3
    cases e2
    rename_i ha hb
    rw [ha, hb]
    exact ⟨d, e1, q⟩
  · rename_i ha hb
    rw [ha, hb]
    split at h3
    · rename_i hs
      simp only [Option.bind_eq_some_iff] at h3
      obtain ⟨d, e1, e2⟩ := h3
      cases e2
      exact ⟨_, d, hs, e1, q⟩
    · cases h3
  · rename_i ha hb
    rw [ha, hb]
    split at h3
    · simp only [Option.bind_eq_some_iff] at h3
      obtain ⟨d, e1, e2⟩ := h3
      cases e2
      exact ⟨d, by assumption, e1, q⟩
    · cases h3
  · cases h3)
theorem xp_none : POD X none tNoPart (toO fNoPart) := do_none.imp (by
  rintro δ S Q ⟨p, h, q⟩
  cases h
  exact q)
theorem xp_some (h : PD X a ta (toE f)) : POD X (some a) (tPart ta) (toO (fPart f)) := (do_some h).imp (by
  rintro δ S Q ⟨p, h, q⟩
  simp only [fPart, Option.bind_eq_some_iff] at h
  obtain ⟨k, h1, h2⟩ := h
  cases h2
  exact ⟨_, asI_some h1, k.1, rfl, q⟩)
theorem x_slice {lo hi : Option Expr} {tl th : TO} {dl dh : FO} {p2 : Pos} (h : PD X a ta (toE f)) (hl : POD X lo tl (toO dl)) (hh : POD X hi th (toO dh)) :
    PD X (.Subscript a (.Slice lo hi none p2) pos) (tSl (vSl X.K) ta tl th) (toE (fSl f dl dh)) := (d_slice h hl hh).imp (by
  rintro δ S Q ⟨p, h, q⟩
  simp only [fSl, Option.bind_eq_some_iff] at h
  obtain ⟨a, h1, b, h2, c, h3, h4⟩ := h
  refine ⟨a, h1, b, h2, c, h3, ?_⟩
  unfold oSl at h4
  unfold rdSl
  split at h4
  · rename_i ha
    try rw [ha]
    cases h4
    exact q
  · rename_i ha
    try rw [ha]
    split at h4
    · rename_i hs
      cases h4
      exact ⟨_, hs, q⟩
    · cases h4
  · rename_i ha
    try rw [ha]
    cases h4
    exact q
  · cases h4)
theorem x_revL {k : Nat} {p1 p2 p3 : Pos} (h : PD X a ta (toE f)) : PD X (.Subscript a (.Slice none none (some (.UnaryOp .USub (.Constant (.int 1) k p1) p2)) p3) pos) (tRevL X.K ta) (toE (fRevL f)) := (d_revL h).imp (by
  rintro δ S Q ⟨p, h, q⟩
  simp only [fRevL, Option.bind_eq_some_iff] at h
  obtain ⟨a, h1, h2⟩ := h
  refine ⟨a, h1, ?_⟩
  split at h2
  · rename_i ha
    rw [ha]
    split at h2
    · rename_i hs
      cases h2
      exact ⟨_, _, rfl, hs, q⟩
    · cases h2
  · cases h2)
def toB (b : FB) : List D → Sto → DK → Prop := fun xs S Q => ∃ p, b xs S = some p ∧ Q p.1 p.2
theorem imp_CB {b : FB} : ∀ δ S Q, toE (fCB b u) δ S Q → dCB (toB b) (toA u) δ S Q := by
  rintro δ S Q ⟨p, h, q⟩
  simp only [fCB, Option.bind_eq_some_iff] at h
  obtain ⟨a, h1, h2⟩ := h
  exact ⟨a, h1, p, h2, q⟩
theorem x_callB {r : List V → Hp → VK → Prop} {fb : FB} {id : String} (c : CallD X (.builtin id) r (toB fb)) (hg : Gl X x) (hm : X.mg x = none) (hv : bootBuiltins x = some (.builtin id)) (ha : PAD X (e :: es) tA (toA u)) (hn : x ≠ "__name__" := by decide) (hdb : (x == ("__debug__" : Str)) = false := by decide)
    (he : starEach (e :: es) X.env = (false, eval e X.env) :: starEach es X.env := by rfl) (hpl : (backTo pos (starEach es X.env)).any (·.1) = false := by rfl) : PD X (.Call (.Name x p) (e :: es) [] pos) (tCB r tA) (toE (fCB fb u)) :=
  (d_callB c hg hm hv ha hn hdb he hpl).imp imp_CB
theorem x_callTy {r : List V → Hp → VK → Prop} {fb : FB} {T : String} (c : CallD X (.type T) r (toB fb)) (hg : Gl X x) (hm : X.mg x = none) (hv : bootBuiltins x = some (.type T)) (ha : PAD X (e :: es) tA (toA u)) (hn : x ≠ "__name__" := by decide) (hdb : (x == ("__debug__" : Str)) = false := by decide)
    (he : starEach (e :: es) X.env = (false, eval e X.env) :: starEach es X.env := by rfl) (hpl : (backTo pos (starEach es X.env)).any (·.1) = false := by rfl) : PD X (.Call (.Name x p) (e :: es) [] pos) (tCB r tA) (toE (fCB fb u)) :=
  (d_callTy c hg hm hv ha hn hdb he hpl).imp imp_CB
theorem xb_len : CallD X (.builtin "len") (vLen X.K) (toB bLen) := cd_len.imp' (by
  rintro xs S Q ⟨p, h, q⟩
  unfold bLen at h
  split at h
  · cases h; exact q
  · split at h
    · cases h; exact ⟨by assumption, q⟩
    · cases h
  · split at h
    · rename_i hs
      cases h; exact ⟨_, hs, q⟩
    · cases h
  · cases h)
theorem xb_abs : CallD X (.builtin "abs") vAbs (toB bAbs) := cd_abs.imp' (by
  rintro xs S Q ⟨p, h, q⟩
  unfold bAbs at h
  split at h
  · cases h; exact ⟨_, rfl, q⟩
  · cases h)
theorem xb_int : CallD X (.type "int") vInt (toB bInt) := cd_int.imp' (by
  rintro xs S Q ⟨p, h, q⟩
  unfold bInt at h
  split at h
  · cases h; exact q
  · cases h; exact q
  · cases h)
theorem xb_tupleOf : CallD X (.type "tuple") (vTupleOf X.K) (toB bTupleOf) := cd_tupleOf.imp' (by
  rintro xs S Q ⟨p, h, q⟩
  unfold bTupleOf at h
  split at h
  · split at h
    · rename_i hs
      cases h; exact ⟨_, hs, q⟩
    · cases h
  · cases h; exact q
  · cases h)
theorem xb_listOf : CallD X (.type "list") (vListOf X.K) (toB bListOf) := cd_listOf.imp' (by
  rintro xs S Q ⟨p, h, q⟩
  unfold bListOf at h
  split at h
  · split at h
    · rename_i hs
      cases h; exact ⟨_, hs, q⟩
    · cases h
  · cases h; exact q
  · cases h)
theorem xb_sum (hc : X.calm = true) : CallD X (.builtin "sum") (rSum X.K) (toB bSum) := (cd_sum hc).imp' (by
  rintro xs S Q ⟨p, h, q⟩
  unfold bSum at h
  split at h
  · split at h
    · rename_i hs
      simp only [Option.bind_eq_some_iff] at h
      obtain ⟨ns, h1, h2⟩ := h
      cases h2
      exact ⟨_, ns, rfl, by rw [hs, ints_of h1], q⟩
    · cases h
  · cases h)
theorem xb_all (hc : X.calm = true) : CallD X (.builtin "all") (rAll X.K) (toB bAll) := (cd_all hc).imp' (by
  rintro xs S Q ⟨p, h, q⟩
  unfold bAll at h
  split at h
  · split at h
    · rename_i hs
      simp only [Option.bind_eq_some_iff] at h
      obtain ⟨ns, h1, h2⟩ := h
      cases h2
      exact ⟨_, ns, rfl, by rw [hs, bls_of h1], q⟩
    · cases h
  · cases h)
theorem xb_repr (hg : X.A.guards = some []) (hu : X.A.units + 64 < cLine) : CallD X (.builtin "repr") (vRepr X.K) (toB bRepr) := (cd_repr hg hu).imp' (by
  rintro xs S Q ⟨p, h, q⟩
  unfold bRepr at h
  split at h
  · split at h
    · rename_i hh
      cases h
      obtain ⟨h1, h2, h3, h4, h5⟩ := hh.choose_spec
      exact ⟨_, _, rfl, h1, h2, h3, h4, h5, q⟩
    · cases h
  · cases h)
theorem x_isi {T : String} {pT : Pos} (hg : Gl X "isinstance") (hm : X.mg "isinstance" = none) (hv : bootBuiltins "isinstance" = some (.builtin "isinstance")) (h : PD X a ta (toE f))
    (hgT : Gl X x) (hmT : X.mg x = none) (hvT : bootBuiltins x = some (.type T)) (hnT : x ≠ "__name__" := by decide) (hdT : (x == ("__debug__" : Str)) = false := by decide)
    (he1 : starEach [a, .Name x pT] X.env = (false, eval a X.env) :: starEach [.Name x pT] X.env := by rfl) (he2 : starEach [.Name x pT] X.env = (false, eval (.Name x pT) X.env) :: starEach [] X.env := by rfl)
    (hpl : (backTo pos (starEach [.Name x pT] X.env)).any (·.1) = false := by rfl) (hT : kitB "none" T = none := by decide +kernel) :
    PD X (.Call (.Name "isinstance" p) [a, .Name x pT] [] pos) (tCB (rIsi X.K) (tCons ta (tCons (tC (.ty T)) tNil))) (toE (fIsi T f)) := (d_isi hg hm hv h hgT hmT hvT hnT hdT he1 he2 hpl hT).imp (by
  rintro δ S Q ⟨p, h, q⟩
  simp only [fIsi, Option.bind_eq_some_iff] at h
  obtain ⟨a, h1, b, h2, h3⟩ := h
  cases h3
  exact ⟨a, h1, b, h2, q⟩)
theorem x_call {k n : Nat} {c : Fn} (F : DefD X.prog X.w X.K X.mg X.base k x n (toC c)) (hgd : X.A.guards = some []) (hr : Room k X.A) (hg : Gl X x) (ha : PAD X (e :: es) tA (toA u)) (hdb : (x == ("__debug__" : Str)) = false := by decide)
    (he : starEach (e :: es) X.env = (false, eval e X.env) :: starEach es X.env := by rfl) (hpl : (backTo pos (starEach es X.env)).any (·.1) = false := by rfl) :
    PD X (.Call (.Name x p) (e :: es) [] pos) (tCall (toSp X.K (toC c)) [] E0 tA) (toE (fCall c u)) := (d_call F hgd hr hg ha hdb he hpl).imp (by
  rintro δ S Q ⟨p, h, q⟩
  simp only [fCall, Option.bind_eq_some_iff] at h
  obtain ⟨a, h1, h2⟩ := h
  exact ⟨a, h1, p, h2, q⟩)
end
/-! ### methods of lists -/
def fApp (f g : FE) (δ : DEnv) (S : Sto) : Option (D × Sto) := (f δ S).bind fun p => match p.1 with
  | .loc i => match p.2[i]? with
    | some (.lst _) => (g δ p.2).bind fun q => match q.2[i]? with
      | some (.lst ds) => if ds.length < 100000 then some (.non, q.2.set i (.lst (ds ++ [q.1]))) else none
      | _ => none
    | _ => none
  | _ => none
def fExt (f g : FE) (δ : DEnv) (S : Sto) : Option (D × Sto) := (f δ S).bind fun p => match p.1 with
  | .loc i => match p.2[i]? with
    | some (.lst _) => (g δ p.2).bind fun q => match q.1 with
      | .loc j => match q.2[i]?, q.2[j]? with
        | some (.lst ds), some (.lst es) => if ds.length + es.length ≤ 100000 then some (.non, q.2.set i (.lst (ds ++ es))) else none
        | _, _ => none
      | _ => none
    | _ => none
  | _ => none
def fPop (f : FE) (δ : DEnv) (S : Sto) : Option (D × Sto) := (f δ S).bind fun p => match p.1 with
  | .loc i => match p.2[i]? with
    | some (.lst ds) => (ds[ds.length - 1]?).bind fun d => some (d, p.2.set i (.lst ds.dropLast))
    | _ => none
  | _ => none
def fDict (cs : List (Str × Int)) (δ : DEnv) (S : Sto) : Option (D × Sto) := some (.loc S.length, S ++ [.dct (cKD cs)])
def fGet2 (f g h : FE) (δ : DEnv) (S : Sto) : Option (D × Sto) := (f δ S).bind fun p => match p.1 with
  | .loc i => match p.2[i]? with
    | some (.dct _) => (g δ p.2).bind fun q => (h δ q.2).bind fun r => match r.2[i]?, q.1 with
      | some (.dct kvs), .str s => some ((valD kvs (.inr s)).getD r.1, r.2)
      | _, _ => none
    | _ => none
  | _ => none
section
variable {X : Cx} {pos p : Pos} {o e : Expr} {te ta : TE} {f g h : FE}
theorem x_append {apos : Pos} (h : PD X o te (toE f)) (h2 : PD X e ta (toE g)) (hbase : attributeBase o "append" X.env (eval o X.env) = eval o X.env := by rfl)
    (hfew : ((backTo pos (starEach [e] X.env)).all (fun x => !x.1) && (backToKw pos (keywordEach [] X.env)).all (fun x => x.1.isSome) && decide (([e] : List Expr).length + ([] : List Keyword).length + (if ([] : List Keyword).isEmpty then 0 else 1) < 30)) = true := by rfl)
    (hline : (apos.endLine == pos.line) = true := by rfl) (hs : starEach [e] X.env = (false, eval e X.env) :: starEach [] X.env := by rfl) (hplain : (backTo pos (starEach [] X.env)).any (·.1) = false := by rfl) :
    PD X (.Call (.Attribute o "append" apos) [e] [] pos) (tBM X.K "list" rAppend te (tCons ta tNil)) (toE (fApp f g)) := (d_append h h2 hbase hfew hline hs hplain).imp (by
  rintro δ S Q ⟨p, h, q⟩
  simp only [fApp, Option.bind_eq_some_iff] at h
  obtain ⟨a, h1, h2⟩ := h
  refine ⟨a, h1, ?_⟩
  split at h2
  case h_2 => cases h2
  rename_i i ha
  split at h2
  case h_2 => cases h2
  rename_i ds hs
  simp only [Option.bind_eq_some_iff] at h2
  obtain ⟨b, h3, h4⟩ := h2
  refine ⟨i, ha, ⟨ds, hs⟩, b, h3, ?_⟩
  split at h4
  case h_2 => cases h4
  split at h4
  · rename_i h5 h6
    cases h4
    exact ⟨_, h5, h6, q⟩
  · cases h4)
theorem x_extend {apos : Pos} (h : PD X o te (toE f)) (h2 : PD X e ta (toE g)) (hbase : attributeBase o "extend" X.env (eval o X.env) = eval o X.env := by rfl)
    (hfew : ((backTo pos (starEach [e] X.env)).all (fun x => !x.1) && (backToKw pos (keywordEach [] X.env)).all (fun x => x.1.isSome) && decide (([e] : List Expr).length + ([] : List Keyword).length + (if ([] : List Keyword).isEmpty then 0 else 1) < 30)) = true := by rfl)
    (hline : (apos.endLine == pos.line) = true := by rfl) (hs : starEach [e] X.env = (false, eval e X.env) :: starEach [] X.env := by rfl) (hplain : (backTo pos (starEach [] X.env)).any (·.1) = false := by rfl) :
    PD X (.Call (.Attribute o "extend" apos) [e] [] pos) (tBM X.K "list" rExtend te (tCons ta tNil)) (toE (fExt f g)) := (d_extend h h2 hbase hfew hline hs hplain).imp (by
  rintro δ S Q ⟨p, h, q⟩
  simp only [fExt, Option.bind_eq_some_iff] at h
  obtain ⟨a, h1, h2⟩ := h
  refine ⟨a, h1, ?_⟩
  split at h2
  case h_2 => cases h2
  rename_i i ha
  split at h2
  case h_2 => cases h2
  rename_i ds hs
  simp only [Option.bind_eq_some_iff] at h2
  obtain ⟨b, h3, h4⟩ := h2
  refine ⟨i, ha, ⟨ds, hs⟩, b, h3, ?_⟩
  split at h4
  case h_2 => cases h4
  rename_i j hb
  split at h4
  case h_2 => cases h4
  split at h4
  · rename_i h5 h7 h6
    cases h4
    exact ⟨j, _, _, hb, h5, h7, h6, q⟩
  · cases h4)
theorem x_pop {apos : Pos} (h : PD X o te (toE f)) (hbase : attributeBase o "pop" X.env (eval o X.env) = eval o X.env := by rfl) (hline : (apos.endLine == pos.line) = true := by rfl) :
    PD X (.Call (.Attribute o "pop" apos) [] [] pos) (tBM0 X.K "list" rPop te) (toE (fPop f)) := (d_pop h hbase hline).imp (by
  rintro δ S Q ⟨p, h, q⟩
  simp only [fPop, Option.bind_eq_some_iff] at h
  obtain ⟨a, h1, h2⟩ := h
  refine ⟨a, h1, ?_⟩
  split at h2
  case h_2 => cases h2
  rename_i i ha
  split at h2
  case h_2 => cases h2
  rename_i ds hs
  simp only [Option.bind_eq_some_iff] at h2
  obtain ⟨b, h3, h4⟩ := h2
  cases h4
  exact ⟨i, ds, b, ha, hs, h3, q⟩)
theorem x_dict {keys : List (Option Expr)} {values : List Expr} (cs : List (Str × Int)) (h : PPs X pos keys values (cTr cs)) (hall : keys.all (·.isSome) = true) (hl : keys.length = values.length) (h0 : keys ≠ []) (h15 : keys.length ≤ 15) (hc : cs.length ≤ 15) (hm : mergeK [] (cKV cs) = cKV cs) :
    PD X (.Dict keys values pos) (tDisp (cTr cs)) (toE (fDict cs)) := (d_dict cs h hall hl h0 h15 hc hm).imp (by
  rintro δ S Q ⟨p, h, q⟩
  cases h
  exact q)
theorem x_get2 {ef eg eh : Expr} {td ty tx : TE} {apos : Pos} (hu : X.A.units + 1 < cLine) (ho : PD X ef td (toE f)) (he : PD X eg ty (toE g)) (hf : PD X eh tx (toE h)) (mm : M2 X ef "get" apos eg eh pos) :
    PD X (.Call (.Attribute ef "get" apos) [eg, eh] [] pos) (tDGet2 td ty tx) (toE (fGet2 f g h)) := (d_get2 hu ho he hf mm).imp (by
  rintro δ S Q ⟨p, h, q⟩
  simp only [fGet2, Option.bind_eq_some_iff] at h
  obtain ⟨a, h1, h2⟩ := h
  refine ⟨a, h1, ?_⟩
  split at h2
  case h_2 => cases h2
  rename_i i ha
  split at h2
  case h_2 => cases h2
  rename_i kvs hs
  simp only [Option.bind_eq_some_iff] at h2
  obtain ⟨b, h3, c, h4, h5⟩ := h2
  refine ⟨i, ha, ⟨kvs, hs⟩, b, h3, c, h4, ?_⟩
  split at h5
  case h_2 => cases h5
  rename_i e1 e2
  cases h5
  exact ⟨_, _, e1, e2, q⟩)
end
end DL

set_option Elab.async false
set_option linter.all false
set_option maxRecDepth 100000
set_option maxHeartbeats 1000000
namespace DL
open PySem L2 PyProof.Rows
/-! ### statements -/
def fsNext (δ : DEnv) (S : Sto) : Option (Fl × Sto) := some (.nx δ, S)
def fsSeq (f g : FS) (δ : DEnv) (S : Sto) : Option (Fl × Sto) := (f δ S).bind fun p => match p.1 with
  | .nx δ' => g δ' p.2
  | .rt d => some (.rt d, p.2)
  | .bk δ' => some (.bk δ', p.2)
  | .ct δ' => some (.ct δ', p.2)
def fsBreak (δ : DEnv) (S : Sto) : Option (Fl × Sto) := some (.bk δ, S)
def fsCont (δ : DEnv) (S : Sto) : Option (Fl × Sto) := some (.ct δ, S)
def fsDrop (f : FE) (δ : DEnv) (S : Sto) : Option (Fl × Sto) := (f δ S).bind fun p => some (.nx δ, p.2)
def fsRet (f : FE) (δ : DEnv) (S : Sto) : Option (Fl × Sto) := (f δ S).bind fun p => some (.rt p.1, p.2)
def fsIf (c : FT) (f g : FS) (δ : DEnv) (S : Sto) : Option (Fl × Sto) := (c δ S).bind fun p => if p.1 = true then f δ p.2 else g δ p.2
def fgName (i : Nat) (x : D) (δ : DEnv) (S : Sto) : Option (DEnv × Sto) := some (δ.set i (some x), S)
def fg2 (g h : FG) (x : D) (δ : DEnv) (S : Sto) : Option (DEnv × Sto) := match x with
  | .tup [d1, d2] => (g d1 δ S).bind fun p => h d2 p.1 p.2
  | _ => none
def fgSub (f g : FE) (x : D) (δ : DEnv) (S : Sto) : Option (DEnv × Sto) := (f δ S).bind fun p => (g δ p.2).bind fun q => match p.1, q.1 with
  | .loc l, .int k => match q.2[l]? with
    | some (.lst ds) => (ixN ds.length k).bind fun j => some (δ, q.2.set l (.lst (ds.set j x)))
    | _ => none
  | _, _ => none
def fsAsg (f : FE) (g : FG) (δ : DEnv) (S : Sto) : Option (Fl × Sto) := (f δ S).bind fun p => (g p.1 δ p.2).bind fun q => some (.nx q.1, q.2)
def fsPar (i j : Nat) (u : FA) (δ : DEnv) (S : Sto) : Option (Fl × Sto) := (u δ S).bind fun p => match p.1 with
  | [d1, d2] => some (.nx ((δ.set i (some d1)).set j (some d2)), p.2)
  | _ => none
def fsAugI (i : Nat) (h : Int → Int → Int) (f : FE) (δ : DEnv) (S : Sto) : Option (Fl × Sto) := match δ[i]? with
  | some (some (.int n)) => (asI (f δ S)).bind fun p => some (.nx (δ.set i (some (.int (h n p.1)))), p.2)
  | _ => none
section
variable {X : Cx} {st : Stmt} {rest a b : List Stmt} {ts us : TS} {t u : FS} {e : Expr} {te : TE} {f : FE} {pos : Pos}
theorem xs_nil : PSsD X [] tNext (toS fsNext) := s_nil.imp (by
  rintro Z δ S ⟨p, h, q⟩
  cases h
  exact q)
theorem xs_pass : PSD X (.Pass pos) tNext (toS fsNext) := s_pass.imp (by
  rintro Z δ S ⟨p, h, q⟩
  cases h
  exact q)
theorem xs_break : PSD X (.Break pos) tBreak (toS fsBreak) := s_break.imp (by
  rintro Z δ S ⟨p, h, q⟩
  cases h
  exact q)
theorem xs_continue : PSD X (.Continue pos) tCont (toS fsCont) := s_continue.imp (by
  rintro Z δ S ⟨p, h, q⟩
  cases h
  exact q)
theorem xs_cons (h1 : PSD X st ts (toS t)) (h2 : PSsD X rest us (toS u)) : PSsD X (st :: rest) (tSeq ts us) (toS (fsSeq t u)) := (s_cons h1 h2).imp (by
  rintro Z δ S ⟨p, h, q⟩
  simp only [fsSeq, Option.bind_eq_some_iff] at h
  obtain ⟨⟨r, S1⟩, h1, h2⟩ := h
  refine ⟨(r, S1), h1, ?_⟩
  cases r with
  | nx δ' => exact ⟨p, h2, q⟩
  | rt d => cases h2; exact q
  | bk δ' => cases h2; exact q
  | ct δ' => cases h2; exact q)
theorem xs_one (h1 : PSD X st ts (toS t)) : PSsD X [st] ts (toS t) := s_one h1
theorem xs_expr (h : PD X e te (toE f)) (hs : swapsWith e none pos.line X.env = pure false := by rfl) : PSD X (.Expr e pos) (tDrop te) (toS (fsDrop f)) := (s_expr h hs).imp (by
  rintro Z δ S ⟨p, h, q⟩
  simp only [fsDrop, Option.bind_eq_some_iff] at h
  obtain ⟨a, h1, h2⟩ := h
  cases h2
  exact ⟨a, h1, q⟩)
theorem xs_ret (h : PD X e te (toE f)) : PSD X (.Return (some e) pos) (tRet te) (toS (fsRet f)) := (s_ret h).imp (by
  rintro Z δ S ⟨p, h, q⟩
  simp only [fsRet, Option.bind_eq_some_iff] at h
  obtain ⟨a, h1, h2⟩ := h
  cases h2
  exact ⟨a, h1, q⟩)
theorem xs_if {c : Expr} {tc : TT} {k : FT} (hc : PTD X c tc (toT k)) (ha : PSsD X a ts (toS t)) (hb : PSsD X b us (toS u)) : PSD X (.If c a b pos) (tIfS tc ts us) (toS (fsIf k t u)) := (s_if hc ha hb).imp (by
  rintro Z δ S ⟨p, h, q⟩
  simp only [fsIf, Option.bind_eq_some_iff] at h
  obtain ⟨k, h1, h2⟩ := h
  refine ⟨k, h1, ?_⟩
  by_cases hk : k.1 = true
  · rw [if_pos hk] at h2 ⊢
    exact ⟨p, h2, q⟩
  · rw [if_neg hk] at h2 ⊢
    exact ⟨p, h2, q⟩)
theorem imp_gName {i : Nat} : ∀ x δ S Q, toG (fgName i) x δ S Q → gdName i x δ S Q := by
  rintro x δ S Q ⟨p, h, q⟩
  cases h
  exact q
theorem xg_name {i : Nat} {x : Str} (hN : X.N.Nodup) (hi : X.N[i]? = some x) (hx : Loc X.env.scope x) (hf : X.fn x = true ∨ X.env.scope.names.lookup x = some .local) : PGD X (.Name x pos) (gName i) (toG (fgName i)) := (g_name hN hi hx hf).imp imp_gName
theorem xg_two {e1 e2 : Expr} {k : Nat} {g h : TG} {g' h' : FG} (hc : X.calm = true) (h1 : PGD X e1 g (toG g')) (h2 : PGD X e2 h (toG h')) (hs1 : (assignEach [e1, e2] X.env).map (·.2) = assign e1 X.env :: (assignEach [e2] X.env).map (·.2) := by rfl)
    (hs2 : (assignEach [e2] X.env).map (·.2) = assign e2 X.env :: (assignEach [] X.env).map (·.2) := by rfl) (hn : (assignEach [e1, e2] X.env).length = 2 := by rfl) (hst : (assignEach [e1, e2] X.env).findIdx? (·.1) = none := by rfl) :
    PGD X (.Tuple [e1, e2] k pos) (gTup X.K 2 (gCons g (gCons h gNil))) (toG (fg2 g' h')) := (g_two hc h1 h2 hs1 hs2 hn hst).imp (by
  rintro x δ S Q ⟨p, h, q⟩
  unfold fg2 at h
  unfold gd2
  split at h
  · simp only [Option.bind_eq_some_iff] at h
    obtain ⟨a, h1, h2⟩ := h
    exact ⟨a, h1, p, h2, q⟩
  · cases h)
theorem xg_sub {o i : Expr} {to ti : TE} {d1 d2 : FE} (ho : PD X o to (toE d1)) (hi : PD X i ti (toE d2))
    (ha : ∀ v, assign (.Subscript o i pos) X.env v = (do
      let ov ← holding [v] (eval o X.env)
      let iv ← holding [v, ov] (eval i X.env)
      standAt pos
      holding [v, ov, iv] (setItem ov iv v)
      release [v, ov, iv] []) := by intro _; rfl) : PGD X (.Subscript o i pos) (gSub to ti rSetL) (toG (fgSub d1 d2)) := (g_sub ho hi ha).imp (by
  rintro x δ S Q ⟨p, h, q⟩
  simp only [fgSub, Option.bind_eq_some_iff] at h
  obtain ⟨a, h1, b, h2, h3⟩ := h
  refine ⟨a, h1, b, h2, ?_⟩
  split at h3
  case h_2 => cases h3
  rename_i l k ha hb
  split at h3
  case h_2 => cases h3
  rename_i ds hs
  simp only [Option.bind_eq_some_iff] at h3
  obtain ⟨j, h4, h5⟩ := h3
  cases h5
  exact ⟨l, k, ds, j, ha, hb, hs, h4, q⟩)
theorem imp_asg {g : FG} : ∀ Z δ S, toS (fsAsg f g) Z δ S → sAsg (toE f) (toG g) Z δ S := by
  rintro Z δ S ⟨p, h, q⟩
  simp only [fsAsg, Option.bind_eq_some_iff] at h
  obtain ⟨a, h1, b, h2, h3⟩ := h
  cases h3
  exact ⟨a, h1, b, h2, q⟩
theorem xs_asg {tg : Expr} {g : TG} {g' : FG} (he : PD X e te (toE f)) (hg : PGD X tg g (toG g')) (hs : swapsWithSole [tg] e pos.line X.env = pure false := by rfl) (hw : swappedStores [tg] e X.env = pure none := by rfl)
    (h1 : (assignEach [tg] X.env).map (·.2) = [assign tg X.env] := by rfl) : PSD X (.Assign [tg] e pos) (tAsg te g) (toS (fsAsg f g')) := (s_asg he hg hs hw h1).imp imp_asg
theorem imp_set {i : Nat} : ∀ Z δ S, toS (fsAsg f (fgName i)) Z δ S → sAsg (toE f) (gdName i) Z δ S := by
  rintro Z δ S ⟨p, h, q⟩
  simp only [fsAsg, Option.bind_eq_some_iff] at h
  obtain ⟨a, h1, b, h2, h3⟩ := h
  cases h2
  cases h3
  exact ⟨a, h1, q⟩
theorem xs_set {i : Nat} {x : Str} {pos' : Pos} (hN : X.N.Nodup) (hi : X.N[i]? = some x) (hx : Loc X.env.scope x) (hf : X.fn x = true ∨ X.env.scope.names.lookup x = some .local) (he : PD X e te (toE f)) (hs : swapsWith e (some (.Name x pos')) pos.line X.env = pure false := by rfl) :
    PSD X (.Assign [.Name x pos'] e pos) (tAsg te (gName i)) (toS (fsAsg f (fgName i))) := (s_set hN hi hx hf he hs).imp imp_set
theorem xs_par {i j : Nat} {x y : Str} {a b : Expr} {ta : TA} {u : FA} {px py pt : Pos} {kt k2 pt2} (hc : X.calm = true) (hN : X.N.Nodup) (hi : X.N[i]? = some x) (hj : X.N[j]? = some y) (hij : i ≠ j)
    (hx : X.env.scope.names.lookup x = some .local) (hy : X.env.scope.names.lookup y = some .local) (ha : PAD X [a, b] ta (toA u))
    (hw : swappedStores [.Tuple [.Name x px, .Name y py] kt pt] (.Tuple [a, b] k2 pt2) X.env = pure (some [x, y]) := by rfl)
    (hs : swapsWithSole [.Tuple [.Name x px, .Name y py] kt pt] (.Tuple [a, b] k2 pt2) pos.line X.env = pure false := by rfl) :
    PSD X (.Assign [.Tuple [.Name x px, .Name y py] kt pt] (.Tuple [a, b] k2 pt2) pos) (tPar i j ta) (toS (fsPar i j u)) := (s_par hc hN hi hj hij hx hy ha hw hs).imp (by
  rintro Z δ S ⟨p, h, q⟩
  simp only [fsPar, Option.bind_eq_some_iff] at h
  obtain ⟨a, h1, h2⟩ := h
  refine ⟨a, h1, ?_⟩
  split at h2
  · rename_i ha
    rw [ha]
    cases h2
    exact q
  · cases h2)
theorem xs_augI {i : Nat} {x : Str} {op : Operator} {h : Int → Int → Int} {pos' : Pos} (hN : X.N.Nodup) (hi : X.N[i]? = some x) (hx : Loc X.env.scope x) (hf : X.fn x = true ∨ X.env.scope.names.lookup x = some .local) (he : PD X e te (toE f)) (ho : PIp X op (ipI h)) :
    PSD X (.AugAssign (.Name x pos') op e pos) (tAug i te (ipI h)) (toS (fsAugI i h f)) := (s_augI hN hi hx hf he ho).imp (by
  rintro Z δ S ⟨p, h, q⟩
  unfold fsAugI at h
  split at h
  · rename_i n hn
    simp only [Option.bind_eq_some_iff] at h
    obtain ⟨k, h1, h2⟩ := h
    cases h2
    exact ⟨n, hn, _, asI_some h1, k.1, rfl, q⟩
  · cases h)
end
/-! ### what is walked -/
def fiAny (f : FE) (δ : DEnv) (S : Sto) : Option ((List D × Option (Nat × List D)) × Sto) := (f δ S).bind fun p => match p.1 with
  | .tup ds => some ((ds, none), p.2)
  | .str z => some ((signsD z, none), p.2)
  | .loc j => match p.2[j]? with
    | some (.lst ds) => some ((ds, some (j, ds)), p.2)
    | _ => none
  | _ => none
def fiRng1 (u : FA) (δ : DEnv) (S : Sto) : Option ((List D × Option (Nat × List D)) × Sto) := (u δ S).bind fun p => match p.1 with
  | [.int j] => if -1000000 ≤ j ∧ j ≤ 1000000 then some ((rangeD 0 j.toNat, none), p.2) else none
  | _ => none
def fiRng2 (u : FA) (δ : DEnv) (S : Sto) : Option ((List D × Option (Nat × List D)) × Sto) := (u δ S).bind fun p => match p.1 with
  | [.int i, .int j] => if (-1000000 ≤ i ∧ i ≤ 1000000) ∧ -1000000 ≤ j ∧ j ≤ 1000000 then some ((rangeD i (j - i).toNat, none), p.2) else none
  | _ => none
def fiEnum (u : FA) (δ : DEnv) (S : Sto) : Option ((List D × Option (Nat × List D)) × Sto) := (u δ S).bind fun p => match p.1 with
  | [.loc j] => match p.2[j]? with
    | some (.lst ds) => some ((enumD ds, some (j, ds)), p.2)
    | _ => none
  | _ => none
section
variable {X : Cx} {tg l : Expr} {te : TE} {f : FE} {pos p : Pos}
theorem stOk_none : stOk none = fun _ => True := by funext S; rfl
theorem stOk_some (j : Nat) (ds : List D) : stOk (some (j, ds)) = fun S => S[j]? = some (.lst ds) := by funext S; rfl
theorem xi_any (h : PD X l te (toE f)) : PID X tg l (iAny X.K te) (toI (fiAny f)) := (i_any h).imp (by
  rintro δ S R ⟨p, h, q⟩
  simp only [fiAny, Option.bind_eq_some_iff] at h
  obtain ⟨a, h1, h2⟩ := h
  refine ⟨a, h1, ?_⟩
  split at h2
  · rename_i ha
    rw [ha]
    cases h2
    rw [stOk_none] at q
    exact q
  · rename_i ha
    rw [ha]
    cases h2
    rw [stOk_none] at q
    exact q
  · rename_i ha
    rw [ha]
    split at h2
    · rename_i hs
      cases h2
      rw [stOk_some] at q
      exact ⟨_, hs, q⟩
    · cases h2
  · cases h2)
theorem xi_rng1 {a : Expr} {ta : TA} {u : FA} (hg : Gl X "range") (hm : X.mg "range" = none) (ha : PAD X [a] ta (toA u)) (hs : starEach [a] X.env = [(false, eval a X.env)] := by rfl) : PID X tg (.Call (.Name "range" p) [a] [] pos) (iRng1 ta) (toI (fiRng1 u)) := (i_rng1 hg hm ha hs).imp (by
  rintro δ S R ⟨p, h, q⟩
  simp only [fiRng1, Option.bind_eq_some_iff] at h
  obtain ⟨a, h1, h2⟩ := h
  refine ⟨a, h1, ?_⟩
  split at h2
  · rename_i ha
    split at h2
    · rename_i hh
      cases h2
      rw [stOk_none] at q
      exact ⟨_, ha, hh.1, hh.2, q⟩
    · cases h2
  · cases h2)
theorem xi_rng2 {a b : Expr} {ta : TA} {u : FA} (hg : Gl X "range") (hm : X.mg "range" = none) (ha : PAD X [a, b] ta (toA u)) (hs : starEach [a, b] X.env = [(false, eval a X.env), (false, eval b X.env)] := by rfl) (hs2 : starEach [b] X.env = [(false, eval b X.env)] := by rfl) :
    PID X tg (.Call (.Name "range" p) [a, b] [] pos) (iRng2 ta) (toI (fiRng2 u)) := (i_rng2 hg hm ha hs hs2).imp (by
  rintro δ S R ⟨p, h, q⟩
  simp only [fiRng2, Option.bind_eq_some_iff] at h
  obtain ⟨a, h1, h2⟩ := h
  refine ⟨a, h1, ?_⟩
  split at h2
  · rename_i ha
    rw [ha]
    split at h2
    · rename_i hh
      cases h2
      rw [stOk_none] at q
      exact ⟨hh.1.1, hh.1.2, hh.2.1, hh.2.2, q⟩
    · cases h2
  · cases h2)
theorem xi_enum {a : Expr} {ta : TA} {u : FA} {elts : List Expr} {kk : Nat} {tpos : Pos} (hg : Gl X "enumerate") (hm : X.mg "enumerate" = none) (ha : PAD X [a] ta (toA u)) (hs : starEach [a] X.env = [(false, eval a X.env)] := by rfl) :
    PID X (.Tuple elts kk tpos) (.Call (.Name "enumerate" p) [a] [] pos) (iEnum X.K ta) (toI (fiEnum u)) := (i_enum hg hm ha hs).imp (by
  rintro δ S R ⟨p, h, q⟩
  simp only [fiEnum, Option.bind_eq_some_iff] at h
  obtain ⟨a, h1, h2⟩ := h
  refine ⟨a, h1, ?_⟩
  split at h2
  · rename_i ha
    split at h2
    · rename_i hs
      cases h2
      rw [stOk_some] at q
      exact ⟨_, _, ha, hs, q⟩
    · cases h2
  · cases h2)
end
/-! ### loops -/
open Classical in
noncomputable def forF (st : Option (Nat × List D)) (g : FG) (b : FS) : List D → FS
  | [], δ, S => if stOk st S then some (.nx δ, S) else none
  | x :: xs, δ, S => if stOk st S then (g x δ S).bind fun p => (b p.1 p.2).bind fun r => match r.1 with
      | .nx δ' => forF st g b xs δ' r.2
      | .ct δ' => forF st g b xs δ' r.2
      | .bk δ' => some (.nx δ', r.2)
      | .rt d => some (.rt d, r.2)
    else none
noncomputable def fsFor (i : FI) (g : FG) (b : FS) (δ : DEnv) (S : Sto) : Option (Fl × Sto) := (i δ S).bind fun p => forF p.1.2 g b p.1.1 δ p.2
def whileF (c : FT) (b : FS) : Nat → FS
  | 0, _, _ => none
  | n + 1, δ, S => (c δ S).bind fun p => if p.1 = true then (b δ p.2).bind fun r => match r.1 with
      | .nx δ' => whileF c b n δ' r.2
      | .ct δ' => whileF c b n δ' r.2
      | .bk δ' => some (.nx δ', r.2)
      | .rt d => some (.rt d, r.2)
    else some (.nx δ, p.2)
def fuelW : Nat := 1000000
def fsWhile (c : FT) (b : FS) : FS := whileF c b fuelW
open Classical in
noncomputable def lcF (st : Option (Nat × List D)) (i l : Nat) (t : FT) (e : FE) : List D → DEnv → Sto → Option (D × Sto)
  | [], _, S => if stOk st S then some (.loc l, S) else none
  | x :: xs, δ, S => if stOk st S then (t (δ.set i (some x)) S).bind fun p => if p.1 = true then (e (δ.set i (some x)) p.2).bind fun y => match y.2[l]? with
        | some (.lst acc) => if acc.length < 100000 then lcF st i l t e xs δ (y.2.set l (.lst (acc ++ [y.1]))) else none
        | _ => none
      else lcF st i l t e xs δ p.2
    else none
def fYes (δ : DEnv) (S : Sto) : Option (Bool × Sto) := some (true, S)
noncomputable def fLc (di : FI) (i : Nat) (t : FT) (e : FE) (δ : DEnv) (S : Sto) : Option (D × Sto) := (di δ S).bind fun p => lcF p.1.2 i p.2.length t e p.1.1 (δ.set i none) (p.2 ++ [.lst []])
theorem imp_forF {st : Option (Nat × List D)} {g : FG} {b : FS} : ∀ (xs : List D) Z δ S p, forF st g b xs δ S = some p → Z.fin p.1 p.2 → forL (stOk st) (toG g) (toS b) xs Z δ S
  | [], Z, δ, S, p, h, q => by
    unfold forF at h
    split at h
    · cases h
      exact ⟨by assumption, q⟩
    · cases h
  | x :: xs, Z, δ, S, p, h, q => by
    unfold forF at h
    split at h
    case isFalse => cases h
    rename_i hst
    simp only [Option.bind_eq_some_iff] at h
    obtain ⟨a, h1, ⟨r, S1⟩, h2, h3⟩ := h
    refine ⟨hst, a, h1, (r, S1), h2, ?_⟩
    cases r with
    | nx δ' => exact imp_forF xs Z δ' S1 p h3 q
    | ct δ' => exact imp_forF xs Z δ' S1 p h3 q
    | bk δ' => cases h3; exact q
    | rt d => cases h3; exact q
theorem imp_whileF {c : FT} {b : FS} : ∀ (n : Nat) Z δ S p, whileF c b n δ S = some p → Z.fin p.1 p.2 → whileL (toT c) (toS b) n Z δ S
  | 0, _, _, _, _, h, _ => by cases h
  | n + 1, Z, δ, S, p, h, q => by
    unfold whileF at h
    simp only [Option.bind_eq_some_iff] at h
    obtain ⟨a, h1, h2⟩ := h
    refine ⟨a, h1, ?_⟩
    by_cases hk : a.1 = true
    · rw [if_pos hk] at h2 ⊢
      simp only [Option.bind_eq_some_iff] at h2
      obtain ⟨⟨r, S1⟩, h3, h4⟩ := h2
      refine ⟨(r, S1), h3, ?_⟩
      cases r with
      | nx δ' => exact imp_whileF n Z δ' S1 p h4 q
      | ct δ' => exact imp_whileF n Z δ' S1 p h4 q
      | bk δ' => cases h4; exact q
      | rt d => cases h4; exact q
    · rw [if_neg hk] at h2 ⊢
      cases h2
      exact q
theorem imp_lcF {st : Option (Nat × List D)} {i l : Nat} {t : FT} {e : FE} : ∀ (xs : List D) δ S p (Q : DK), lcF st i l t e xs δ S = some p → Q p.1 p.2 → lcL (stOk st) i l (toT t) (toE e) xs δ S Q
  | [], δ, S, p, Q, h, q => by
    unfold lcF at h
    split at h
    · cases h
      exact ⟨by assumption, q⟩
    · cases h
  | x :: xs, δ, S, p, Q, h, q => by
    unfold lcF at h
    split at h
    case isFalse => cases h
    rename_i hst
    simp only [Option.bind_eq_some_iff] at h
    obtain ⟨a, h1, h2⟩ := h
    refine ⟨hst, a, h1, ?_⟩
    by_cases hk : a.1 = true
    · rw [if_pos hk] at h2 ⊢
      simp only [Option.bind_eq_some_iff] at h2
      obtain ⟨y, h3, h4⟩ := h2
      refine ⟨y, h3, ?_⟩
      split at h4
      case h_2 => cases h4
      rename_i acc hacc
      split at h4
      case isFalse => cases h4
      rename_i hl
      exact ⟨acc, hacc, hl, imp_lcF xs δ _ p Q h4 q⟩
    · rw [if_neg hk] at h2 ⊢
      exact imp_lcF xs δ _ p Q h2 q
section
variable {X : Cx} {elt tg iter : Expr} {ifs : List Expr} {scope : Scope} {y x : Str} {i j : Nat} {pos spos px py : Pos} {wi : TI} {di : FI} {tt : TT} {t : FT} {te : TE} {f : FE}
theorem xs_for {body : List Stmt} {g : TG} {g' : FG} {tb : TS} {b : FS} (hp : PassesOwn (model X.prog X.w) X.A X.env X.xe) (hc : X.calm = true) (hi : PID X tg iter wi (toI di)) (hg : PGD X tg g (toG g')) (hb : PSsD X body tb (toS b))
    (hs : ∀ x, foldedSetIterable iter X.env x = pure x := by intro _; rfl) : PSD X (.For tg iter body [] pos) (tFor wi g tb) (toS (fsFor di g' b)) := (s_for hp hc hi hg hb hs).imp (by
  rintro Z δ S ⟨p, h, q⟩
  simp only [fsFor, Option.bind_eq_some_iff] at h
  obtain ⟨a, h1, h2⟩ := h
  exact ⟨a, h1, imp_forF _ Z δ _ p h2 q⟩)
theorem xs_while {c : Expr} {body : List Stmt} {tb : TS} {b : FS} (hp : PassesOwn (model X.prog X.w) X.A X.env X.xe) (hc : PTD X c tt (toT t)) (hb : PSsD X body tb (toS b)) : PSD X (.While c body [] pos) (tWhile tt tb) (toS (fsWhile t b)) := (s_while hp hc hb).imp (by
  rintro Z δ S ⟨p, h, q⟩
  exact ⟨fuelW, imp_whileF fuelW Z δ S p h q⟩)
theorem xts_nil : PTsD X [] tYes (toT fYes) := dts_nil.imp (by
  rintro δ S Q ⟨p, h, q⟩
  cases h
  exact q)
theorem xts_one {c : Expr} (h : PTD X c tt (toT t)) : PTsD X [c] tt (toT t) := dts_one h
theorem imp_lc : ∀ δ S Q, toE (fLc di i t f) δ S Q → dLc (toI di) i (toT t) (toE f) δ S Q := by
  rintro δ S Q ⟨p, h, q⟩
  simp only [fLc, Option.bind_eq_some_iff] at h
  obtain ⟨a, h1, h2⟩ := h
  exact ⟨a, h1, imp_lcF _ _ _ p Q h2 q⟩
theorem x_lc (hc : X.calm = true) (hN : X.N.Nodup) (hi : PID X (.Name x px) iter wi (toI di)) (ok : BlkOk X.N X.env.scope scope [(x, i)])
    (hg : ∀ (s : Shared) (H : Hp) (C : Addr) (cl : List (Str × Addr)) (fp : List Addr), PG (X.blk s H scope (compEnvC scope cl C X.env) fp) (.Name x px) (gName i))
    (ht : ∀ (s : Shared) (H : Hp) (C : Addr) (cl : List (Str × Addr)) (fp : List Addr), PTsD (X.blk s H scope (compEnvC scope cl C X.env) fp) ifs tt (toT t))
    (he : ∀ (s : Shared) (H : Hp) (C : Addr) (cl : List (Str × Addr)) (fp : List Addr), PD (X.blk s H scope (compEnvC scope cl C X.env) fp) elt te (toE f)) (hs : ∀ x, foldedSetIterable iter X.env x = pure x := by intro _; rfl) (s0 : Shared) :
    PD X (.ListComp elt [⟨.Name x px, iter, ifs, 0⟩] scope pos) (tLc wi (gName i) tt te [i]) (toE (fLc di i t f)) := (d_lc hc hN hi ok hg ht he hs s0).imp imp_lc
theorem xs_setLc (hc : X.calm = true) (hN : X.N.Nodup) (hy : X.N[j]? = some y) (hyl : X.env.scope.names.lookup y = some .local) (hsw : swapsWith (.ListComp elt [⟨.Name x px, iter, ifs, 0⟩] scope pos) (some (.Name y py)) spos.line X.env = pure true)
    (hi : PID X (.Name x px) iter wi (toI di)) (ok : BlkOk X.N X.env.scope scope [(x, i)])
    (hg : ∀ (s : Shared) (H : Hp) (C : Addr) (cl : List (Str × Addr)) (fp : List Addr), PG (X.blk s H scope (compEnvC scope cl C X.env) fp) (.Name x px) (gName i))
    (ht : ∀ (s : Shared) (H : Hp) (C : Addr) (cl : List (Str × Addr)) (fp : List Addr), PTsD (X.blk s H scope (compEnvC scope cl C X.env) fp) ifs tt (toT t))
    (he : ∀ (s : Shared) (H : Hp) (C : Addr) (cl : List (Str × Addr)) (fp : List Addr), PD (X.blk s H scope (compEnvC scope cl C X.env) fp) elt te (toE f)) (hs : ∀ x, foldedSetIterable iter X.env x = pure x := by intro _; rfl) (s0 : Shared) :
    PSD X (.Assign [.Name y py] (.ListComp elt [⟨.Name x px, iter, ifs, 0⟩] scope pos) spos) (tAsg (tLc wi (gName i) tt te [i]) (gName j)) (toS (fsAsg (fLc di i t f) (fgName j))) := (s_setLc hc hN hy hyl hsw hi ok hg ht he hs s0).imp (by
  rintro Z δ S ⟨p, h, q⟩
  simp only [fsAsg, Option.bind_eq_some_iff] at h
  obtain ⟨a, h1, b, h2, h3⟩ := h
  cases h2
  cases h3
  exact imp_lc δ S _ ⟨a, h1, q⟩)
end
/-! ### a def -/
def retF : Option (Fl × Sto) → Option (D × Sto)
  | some (.rt d, S) => some (d, S)
  | some (.nx _, S) => some (.non, S)
  | _ => none
@[simp] theorem retF_rt (d : D) (S : Sto) : retF (some (.rt d, S)) = some (d, S) := rfl
@[simp] theorem retF_nx (δ : DEnv) (S : Sto) : retF (some (.nx δ, S)) = some (.non, S) := rfl
@[simp] theorem retF_none : retF none = none := rfl
def fDef (n N : Nat) (b : FS) (ds : List D) (S : Sto) : Option (D × Sto) := if ds.length = n then retF (b (startD N ds) S) else none
theorem fDef_eq {n N : Nat} {b : FS} {ds : List D} {S : Sto} (h : ds.length = n) : fDef n N b ds S = retF (b (startD N ds) S) := if_pos h
theorem imp_def {n N : Nat} {b : FS} : ∀ ds S Q, toC (fDef n N b) ds S Q → toS b { nx := fun _ S' => Q .non S', rt := Q } (startD N ds) S := by
  rintro ds S Q ⟨p, h, q⟩
  unfold fDef at h
  split at h
  case isFalse => cases h
  unfold retF at h
  split at h
  · rename_i d S1 hb
    cases h
    exact ⟨_, hb, q⟩
  · rename_i d S1 hb
    cases h
    exact ⟨_, hb, q⟩
  · cases h
theorem len_def {n N : Nat} {b : FS} : ∀ ds S Q, toC (fDef n N b) ds S Q → ds.length = n := by
  rintro ds S Q ⟨p, h, q⟩
  unfold fDef at h
  split at h
  · assumption
  · cases h
theorem defF {P : Program} {w : World} {K : PySem.W.Frag} {mg : Str → Option Value} {base : Heap} {k n M : Nat} {x qual : Str} {st : Stmt} {f : Addr} {fd : FuncData} {ps N : List Str} {b : FS}
    (F : Fun K x qual st f fd) (S : FnScope N ps (defScope st)) (hm : mg x = some (.ref f)) (hb : Binds K fd ps []) (hn : ps.length = n) (hM : N.length = M)
    (hb0 : ∀ (cdv : Value) (A : Around) (outer : List Env) (s : Shared) (H : Hp) (E : XK),
      (cxD P w K mg base N qual st f cdv A outer s H E).A.guards = some [] → Room k (cxD P w K mg base N qual st f cdv A outer s H E).A →
      ∃ ts, PSsD (cxD P w K mg base N qual st f cdv A outer s H E) (defBody st) ts (toS b)) :
    DefD P w K mg base (k + 1) x n (toC (fDef n M b)) := by
  subst hM
  exact defD F S hm hb hn len_def fun cdv A outer s H E hg hr =>
    let ⟨ts, h⟩ := hb0 cdv A outer s H E hg hr
    ⟨ts, _, h, fun ds S Q hc => imp_def ds S Q hc⟩
theorem fnF {P : Program} {w : World} {K : PySem.W.Frag} {mg : Str → Option Value} {base : Heap} {k n M : Nat} {x qual : Str} {st : Stmt} {f : Addr} {fd : FuncData} {ps N : List Str} {b : FS}
    (F : Fun K x qual st f fd) (S : FnScope N ps (defScope st)) (hn : ps.length = n) (hM : N.length = M)
    (hb0 : ∀ (cdv : Value) (A : Around) (outer : List Env) (s : Shared) (H : Hp) (E : XK),
      (cxD P w K mg base N qual st f cdv A outer s H E).A.guards = some [] → Room k (cxD P w K mg base N qual st f cdv A outer s H E).A →
      ∃ ts, PSsD (cxD P w K mg base N qual st f cdv A outer s H E) (defBody st) ts (toS b)) :
    FnG P w K mg base CX0 (k + 1) f fd ps (toSp K (toC (fDef n M b))) := by
  subst hM
  exact fnD F S hn len_def fun cdv A outer s H E hg hr =>
    let ⟨ts, h⟩ := hb0 cdv A outer s H E hg hr
    ⟨ts, _, h, fun ds S Q hc => imp_def ds S Q hc⟩
/-- a def that is never called -/
theorem defF_none {P : Program} {w : World} {K : PySem.W.Frag} {mg : Str → Option Value} {base : Heap} {x qual : Str} {st : Stmt} {f : Addr} {fd : FuncData} {ps : List Str} (F : Fun K x qual st f fd) (hm : mg x = some (.ref f)) (hb : Binds K fd ps []) (k : Nat) :
    DefD P w K mg base k x ps.length (toC fun _ _ => none) := (DefD.never F hm hb k).imp (by
  rintro ds S Q ⟨p, h, q⟩
  cases h)
end DL

set_option Elab.async false
set_option linter.all false
set_option maxRecDepth 100000
set_option maxHeartbeats 1000000
namespace DL
open PySem L2 PyProof.Rows
/-! ### more of Python -/
theorem bt_max : bootBuiltins "max" = some (.builtin "max") := by decide +kernel
theorem bt_min : bootBuiltins "min" = some (.builtin "min") := by decide +kernel
def bMax (xs : List D) (S : Sto) : Option (D × Sto) := match xs with
  | [.int i, .int j] => some (.int (if j > i then j else i), S)
  | _ => none
def bMin (xs : List D) (S : Sto) : Option (D × Sto) := match xs with
  | [.int i, .int j] => some (.int (if j < i then j else i), S)
  | _ => none
def fNewD (δ : DEnv) (S : Sto) : Option (D × Sto) := some (.loc S.length, S ++ [.dct []])
def fJoin (f g : FE) (δ : DEnv) (S : Sto) : Option (D × Sto) := (f δ S).bind fun p => (g δ p.2).bind fun q => match p.1, q.1 with
  | .str a, .loc i => match q.2[i]? with
    | some (.lst ds) => (asStrs ds).bind fun ys => if (ys.map (·.length)).sum + ys.length * a.length ≤ 16777216 then some (.str (Txt.join a ys), q.2) else none
    | _ => none
  | _, _ => none
section
variable {X : Cx} {pos p : Pos} {o e : Expr} {te ta : TE} {f g h : FE} {x : Str}
def vMax : List V → Hp → VK → Prop := fun xs H Q => ∃ i j, xs = [.int i, .int j] ∧ Q (.int (if j > i then j else i)) H
def vMin : List V → Hp → VK → Prop := fun xs H Q => ∃ i j, xs = [.int i, .int j] ∧ Q (.int (if j < i then j else i)) H
theorem xb_max (hc : X.calm = true) : CallD X (.builtin "max") vMax (toB bMax) := ⟨call_max2 hc, fun H m S xs vs Q Q' R rx ⟨p, h, q⟩ c => by
  unfold bMax at h
  split at h
  · cases h
    cases rx with
    | cons r1 r2 =>
      cases r2 with
      | cons r2 r3 =>
        cases r3
        cases r1
        cases r2
        exact ⟨_, _, rfl, c.same R q (.int _)⟩
  · cases h⟩
theorem xb_min (hc : X.calm = true) : CallD X (.builtin "min") vMin (toB bMin) := ⟨call_min2 hc, fun H m S xs vs Q Q' R rx ⟨p, h, q⟩ c => by
  unfold bMin at h
  split at h
  · cases h
    cases rx with
    | cons r1 r2 =>
      cases r2 with
      | cons r2 r3 =>
        cases r3
        cases r1
        cases r2
        exact ⟨_, _, rfl, c.same R q (.int _)⟩
  · cases h⟩
theorem x_newD : PD X (.Dict [] [] pos) tDNewK (toE fNewD) := ⟨pe_dnewK, fun σ H m S δ Q Q' R ev ⟨p, h, q⟩ c a ha => by
  cases h
  exact c _ _ _ _ (m ++ [a]) q (.new ha) ⟨[a], rfl⟩ (R.pushK (kws := []) (kvs := []) ha rfl .nil) (.loc (by rw [← R.len, List.getElem?_append_right (Nat.le_refl _), Nat.sub_self]; rfl))⟩
/-- f() -/
theorem pe_callG0 {CX : CXT} {k : Nat} {f : Addr} {fd : FuncData} {ps : List Str} {sp : Sp} {dvs : List V} {ds : List Value} {E : XK} (F : FnG X.prog X.w X.K X.mg X.base CX k f fd ps sp) (hgd : X.A.guards = some []) (hr : Room k X.A) (hg : Gl X x)
    (hm : X.mg x = some (.ref f)) (hk : PySem.W.keepIn X.K (.ref f) = true) (hb : Binds X.K fd ps ds) (hd : Vals dvs ds) (hx : Passes CX X E) (hdb : (x == ("__debug__" : Str)) = false := by decide) :
    PE X (.Call (.Name x p) [] [] pos) (tCall sp dvs E tNil) := by
  refine ⟨fun pins s σ H Q I h => ?_⟩
  refine wpAny_Call_Name_kw (ld_glob I hg hm ?_ hdb)
  exact PySem.W.callWith_K0 I.kIn hk (run_fnG (us := []) F hgd hr hb hd hx I .nil h)
def fCall0 (c : Fn) (δ : DEnv) (S : Sto) : Option (D × Sto) := c [] S
theorem x_call0 {k n : Nat} {c : Fn} (F : DefD X.prog X.w X.K X.mg X.base k x n (toC c)) (hgd : X.A.guards = some []) (hr : Room k X.A) (hg : Gl X x) (hdb : (x == ("__debug__" : Str)) = false := by decide) :
    PD X (.Call (.Name x p) [] [] pos) (tCall (toSp X.K (toC c)) [] E0 tNil) (toE (fCall0 c)) := by
  obtain ⟨f, fd, ps, h1, h2, h3, h4, h5⟩ := F.ex
  exact ⟨pe_callG0 h2 hgd hr hg h3 h4 h5 .nil pass0 hdb, fun σ H m S δ Q Q' R e q c' => ⟨m, S, [], Q', R, .nil, q, c'⟩⟩
def vJoin (K : PySem.W.Frag) : V → List V → Hp → VK → Prop := fun x xs H Q => ∃ a p, ∃ ys : List Str, x = .str a ∧ xs = [.ref p] ∧ (SqL K H p (ys.map V.str) ∨ SqT K H p (ys.map V.str)) ∧ (ys.map (·.length)).sum + ys.length * a.length ≤ 16777216 ∧ Q (.str (Txt.join a ys)) H
theorem x_join {apos : Pos} (h : PD X o te (toE f)) (h2 : PD X e ta (toE g)) (hbase : attributeBase o "join" X.env (eval o X.env) = eval o X.env := by rfl)
    (hfew : ((backTo pos (starEach [e] X.env)).all (fun x => !x.1) && (backToKw pos (keywordEach [] X.env)).all (fun x => x.1.isSome) && decide (([e] : List Expr).length + ([] : List Keyword).length + (if ([] : List Keyword).isEmpty then 0 else 1) < 30)) = true := by rfl)
    (hline : (apos.endLine == pos.line) = true := by rfl) (hs : starEach [e] X.env = (false, eval e X.env) :: starEach [] X.env := by rfl) (hplain : (backTo pos (starEach [] X.env)).any (·.1) = false := by rfl) :
    PD X (.Call (.Attribute o "join" apos) [e] [] pos) (tBM X.K "str" (vJoin X.K) te (tCons ta tNil)) (toE (fJoin f g)) := ⟨pe_bm PySem.F.plainAttrs_str PySem.F.slot_str_join PySem.F.type_str_join mt_join h.pe (pa_cons h2.pe pa_nil hs) hbase hfew hline hs hplain, fun σ H m S δ Q Q' R ev ⟨p, hp, q⟩ c => by
  simp only [fJoin, Option.bind_eq_some_iff] at hp
  obtain ⟨a, e1, b, e2, e3⟩ := hp
  refine h.sim σ H m S δ _ (fun d S' => (d, S') = a) R ev ⟨a, e1, rfl⟩ ?_
  rintro d S1 v H1 m1 rfl k1 g1 R1 r1
  split at e3
  case h_2 => cases e3
  rename_i z i ha hb
  have ha : d = .str z := ha
  subst ha
  cases r1
  refine ⟨rfl, h2.sim σ H1 m1 S1 δ _ (fun d S' => (d, S') = b) R1 (ev.mono k1 g1) ⟨b, e2, rfl⟩ ?_⟩
  rintro d2 S2 v2 H2 m2 rfl k2 g2 R2 r2
  have hb : d2 = .loc i := hb
  subst hb
  split at e3
  case h_2 => cases e3
  rename_i ds hs
  simp only [Option.bind_eq_some_iff] at e3
  obtain ⟨ys, e4, e5⟩ := e3
  split at e5
  case isFalse => cases e5
  rename_i hz
  cases e5
  obtain ⟨a2, vs2, rfl, em2, hH2, d2⟩ := R2.lst r2 hs
  have := strs_vs d2 e4
  subst this
  exact ⟨z, a2, ys, rfl, rfl, .inl (SqL.of hH2), hz, (c.mono (k1.trans k2) (g1.trans g2)).same R2 q (.str _)⟩⟩
end
end DL

set_option Elab.async false
set_option linter.all false
set_option maxRecDepth 100000
set_option maxHeartbeats 1000000
namespace DL
open PySem L2 PyProof.Rows
abbrev OSt := Option (Nat × List D)
abbrev OIn := Option Int
/-! ### how the readings are worked out: nothing behind a step is looked at before the step is done -/
@[simp] theorem fVar_ev {i : Nat} {δ : DEnv} {S : Sto} {d : D} (h : δ[i]? = some (some d)) : fVar i δ S = some (d, S) := by unfold fVar; rw [h]; rfl
@[simp] theorem fC_ev {d : D} {δ : DEnv} {S : Sto} : fC d δ S = some (d, S) := rfl
@[simp] theorem fNil_ev {δ : DEnv} {S : Sto} : fNil δ S = some ([], S) := rfl
def consK2 (x : D) : Option (List D × Sto) → Option (List D × Sto)
  | some (xs, S) => some (x :: xs, S)
  | none => none
@[simp] theorem consK2_1 {x : D} {S : Sto} {xs : List D} : consK2 x (some (xs, S)) = (some (x :: xs, S)) := rfl
@[simp] theorem consK2_2 {x : D} : consK2 x none = (none) := rfl
def consK (g : FA) (δ : DEnv) : Option (D × Sto) → Option (List D × Sto)
  | some (x, S) => consK2 x (g δ S)
  | none => none
@[simp] theorem consK_1 {g : FA} {δ : DEnv} {S : Sto} {x : D} : consK g δ (some (x, S)) = (consK2 x (g δ S)) := rfl
@[simp] theorem consK_2 {g : FA} {δ : DEnv} : consK g δ none = (none) := rfl
@[simp] theorem fCons_ev {f : FE} {g : FA} {δ : DEnv} {S : Sto} : fCons f g δ S = consK g δ (f δ S) := by
  unfold fCons
  cases f δ S with
  | none => rfl
  | some p => obtain ⟨x, S1⟩ := p; show (g δ S1).bind _ = consK2 x (g δ S1); cases g δ S1 <;> rfl
def tupK : Option (List D × Sto) → Option (D × Sto)
  | some (xs, S) => if xs.length ≤ 100000 then some (.tup xs, S) else none
  | none => none
@[simp] theorem tupK_1 {S : Sto} {xs : List D} : tupK  (some (xs, S)) = (if xs.length ≤ 100000 then some (.tup xs, S) else none) := rfl
@[simp] theorem tupK_2 : tupK  none = (none) := rfl
@[simp] theorem fTup_ev {g : FA} {δ : DEnv} {S : Sto} : fTup g δ S = tupK (g δ S) := by unfold fTup; cases g δ S <;> rfl
def lstK : Option (List D × Sto) → Option (D × Sto)
  | some (xs, S) => if xs.length ≤ 100000 then some (.loc S.length, S ++ [.lst xs]) else none
  | none => none
@[simp] theorem lstK_1 {S : Sto} {xs : List D} : lstK  (some (xs, S)) = (if xs.length ≤ 100000 then some (.loc S.length, S ++ [.lst xs]) else none) := rfl
@[simp] theorem lstK_2 : lstK  none = (none) := rfl
@[simp] theorem fLst_ev {g : FA} {δ : DEnv} {S : Sto} : fLst g δ S = lstK (g δ S) := by unfold fLst; cases g δ S <;> rfl
def opK2 (o : FOp) (x : D) : Option (D × Sto) → Option (D × Sto)
  | some (y, S) => o x y S
  | none => none
@[simp] theorem opK2_1 {o : FOp} {x : D} {S : Sto} {y : D} : opK2 o x (some (y, S)) = (o x y S) := rfl
@[simp] theorem opK2_2 {o : FOp} {x : D} : opK2 o x none = (none) := rfl
def opK (o : FOp) (g : FE) (δ : DEnv) : Option (D × Sto) → Option (D × Sto)
  | some (x, S) => opK2 o x (g δ S)
  | none => none
@[simp] theorem opK_1 {o : FOp} {g : FE} {δ : DEnv} {S : Sto} {x : D} : opK o g δ (some (x, S)) = (opK2 o x (g δ S)) := rfl
@[simp] theorem opK_2 {o : FOp} {g : FE} {δ : DEnv} : opK o g δ none = (none) := rfl
@[simp] theorem fOp_ev {o : FOp} {f g : FE} {δ : DEnv} {S : Sto} : fOp o f g δ S = opK o g δ (f δ S) := by
  unfold fOp
  cases f δ S with
  | none => rfl
  | some p => obtain ⟨x, S1⟩ := p; show (g δ S1).bind _ = opK2 o x (g δ S1); cases g δ S1 <;> rfl
@[simp] theorem fTest_ev {f : FE} {δ : DEnv} {S : Sto} : fTest f δ S = asB (f δ S) := rfl
def chK3 (o2 : FOp) (h : FE) (δ : DEnv) (y : D) : Option (Bool × Sto) → Option (D × Sto)
  | some (b, S) => if b = true then opK2 o2 y (h δ S) else some (.bl false, S)
  | none => none
@[simp] theorem chK3_1 {o2 : FOp} {h : FE} {δ : DEnv} {y : D} {S : Sto} {b : Bool} : chK3 o2 h δ y (some (b, S)) = (if b = true then opK2 o2 y (h δ S) else some (.bl false, S)) := rfl
@[simp] theorem chK3_2 {o2 : FOp} {h : FE} {δ : DEnv} {y : D} : chK3 o2 h δ y none = (none) := rfl
def chK2 (o o2 : FOp) (h : FE) (δ : DEnv) (x : D) : Option (D × Sto) → Option (D × Sto)
  | some (y, S) => chK3 o2 h δ y (asB (o x y S))
  | none => none
@[simp] theorem chK2_1 {o o2 : FOp} {h : FE} {δ : DEnv} {x : D} {S : Sto} {y : D} : chK2 o o2 h δ x (some (y, S)) = (chK3 o2 h δ y (asB (o x y S))) := rfl
@[simp] theorem chK2_2 {o o2 : FOp} {h : FE} {δ : DEnv} {x : D} : chK2 o o2 h δ x none = (none) := rfl
def chK (o o2 : FOp) (g h : FE) (δ : DEnv) : Option (D × Sto) → Option (D × Sto)
  | some (x, S) => chK2 o o2 h δ x (g δ S)
  | none => none
@[simp] theorem chK_1 {o o2 : FOp} {g h : FE} {δ : DEnv} {S : Sto} {x : D} : chK o o2 g h δ (some (x, S)) = (chK2 o o2 h δ x (g δ S)) := rfl
@[simp] theorem chK_2 {o o2 : FOp} {g h : FE} {δ : DEnv} : chK o o2 g h δ none = (none) := rfl
@[simp] theorem fChain_ev {o o2 : FOp} {f g h : FE} {δ : DEnv} {S : Sto} : fChain o o2 f g h δ S = chK o o2 g h δ (f δ S) := by
  unfold fChain
  cases f δ S with
  | none => rfl
  | some p =>
    obtain ⟨x, S1⟩ := p
    show (g δ S1).bind _ = chK2 o o2 h δ x (g δ S1)
    cases g δ S1 with
    | none => rfl
    | some q =>
      obtain ⟨y, S2⟩ := q
      show (asB (o x y S2)).bind _ = chK3 o2 h δ y (asB (o x y S2))
      cases asB (o x y S2) with
      | none => rfl
      | some r =>
        obtain ⟨b, S3⟩ := r
        show (if b = true then (h δ S3).bind _ else _) = if b = true then opK2 o2 y (h δ S3) else _
        cases h δ S3 <;> rfl
def andK (g : FT) (δ : DEnv) : Option (Bool × Sto) → Option (Bool × Sto)
  | some (b, S) => if b = true then g δ S else some (false, S)
  | none => none
@[simp] theorem andK_1 {g : FT} {δ : DEnv} {S : Sto} {b : Bool} : andK g δ (some (b, S)) = (if b = true then g δ S else some (false, S)) := rfl
@[simp] theorem andK_2 {g : FT} {δ : DEnv} : andK g δ none = (none) := rfl
@[simp] theorem fAnd_ev {f g : FT} {δ : DEnv} {S : Sto} : fAnd f g δ S = andK g δ (f δ S) := by unfold fAnd; cases f δ S <;> rfl
def orK (g : FT) (δ : DEnv) : Option (Bool × Sto) → Option (Bool × Sto)
  | some (b, S) => if b = true then some (true, S) else g δ S
  | none => none
@[simp] theorem orK_1 {g : FT} {δ : DEnv} {S : Sto} {b : Bool} : orK g δ (some (b, S)) = (if b = true then some (true, S) else g δ S) := rfl
@[simp] theorem orK_2 {g : FT} {δ : DEnv} : orK g δ none = (none) := rfl
@[simp] theorem fOr_ev {f g : FT} {δ : DEnv} {S : Sto} : fOr f g δ S = orK g δ (f δ S) := by unfold fOr; cases f δ S <;> rfl
def notK : Option (Bool × Sto) → Option (Bool × Sto)
  | some (b, S) => some (!b, S)
  | none => none
@[simp] theorem notK_1 {S : Sto} {b : Bool} : notK  (some (b, S)) = (some (!b, S)) := rfl
@[simp] theorem notK_2 : notK  none = (none) := rfl
@[simp] theorem fNot_ev {f : FT} {δ : DEnv} {S : Sto} : fNot f δ S = notK (f δ S) := by unfold fNot; cases f δ S <;> rfl
def andVK (g : FE) (δ : DEnv) : Option (Bool × Sto) → Option (D × Sto)
  | some (b, S) => if b = true then g δ S else some (.bl false, S)
  | none => none
@[simp] theorem andVK_1 {g : FE} {δ : DEnv} {S : Sto} {b : Bool} : andVK g δ (some (b, S)) = (if b = true then g δ S else some (.bl false, S)) := rfl
@[simp] theorem andVK_2 {g : FE} {δ : DEnv} : andVK g δ none = (none) := rfl
@[simp] theorem fAndV_ev {f g : FE} {δ : DEnv} {S : Sto} : fAndV f g δ S = andVK g δ (asB (f δ S)) := by unfold fAndV; cases asB (f δ S) <;> rfl
def orVK (g : FE) (δ : DEnv) : Option (Bool × Sto) → Option (D × Sto)
  | some (b, S) => if b = true then some (.bl true, S) else g δ S
  | none => none
@[simp] theorem orVK_1 {g : FE} {δ : DEnv} {S : Sto} {b : Bool} : orVK g δ (some (b, S)) = (if b = true then some (.bl true, S) else g δ S) := rfl
@[simp] theorem orVK_2 {g : FE} {δ : DEnv} : orVK g δ none = (none) := rfl
@[simp] theorem fOrV_ev {f g : FE} {δ : DEnv} {S : Sto} : fOrV f g δ S = orVK g δ (asB (f δ S)) := by unfold fOrV; cases asB (f δ S) <;> rfl
def notVK : Option (Bool × Sto) → Option (D × Sto)
  | some (b, S) => some (.bl (!b), S)
  | none => none
@[simp] theorem notVK_1 {S : Sto} {b : Bool} : notVK  (some (b, S)) = (some (.bl (!b), S)) := rfl
@[simp] theorem notVK_2 : notVK  none = (none) := rfl
@[simp] theorem fNotV_ev {f : FE} {δ : DEnv} {S : Sto} : fNotV f δ S = notVK (asB (f δ S)) := by unfold fNotV; cases asB (f δ S) <;> rfl
def ifEK (f g : FE) (δ : DEnv) : Option (Bool × Sto) → Option (D × Sto)
  | some (b, S) => if b = true then f δ S else g δ S
  | none => none
@[simp] theorem ifEK_1 {f g : FE} {δ : DEnv} {S : Sto} {b : Bool} : ifEK f g δ (some (b, S)) = (if b = true then f δ S else g δ S) := rfl
@[simp] theorem ifEK_2 {f g : FE} {δ : DEnv} : ifEK f g δ none = (none) := rfl
@[simp] theorem fIfE_ev {c : FT} {f g : FE} {δ : DEnv} {S : Sto} : fIfE c f g δ S = ifEK f g δ (c δ S) := by unfold fIfE; cases c δ S <;> rfl
def negK : Option (Int × Sto) → Option (D × Sto)
  | some (i, S) => some (.int (-i), S)
  | none => none
@[simp] theorem negK_1 {S : Sto} {i : Int} : negK  (some (i, S)) = (some (.int (-i), S)) := rfl
@[simp] theorem negK_2 : negK  none = (none) := rfl
@[simp] theorem fNeg_ev {f : FE} {δ : DEnv} {S : Sto} : fNeg f δ S = negK (asI (f δ S)) := by unfold fNeg; cases asI (f δ S) <;> rfl
@[simp] theorem fNoPart_ev {δ : DEnv} {S : Sto} : fNoPart δ S = some (none, S) := rfl
def partK : Option (Int × Sto) → Option (Option Int × Sto)
  | some (i, S) => some (some i, S)
  | none => none
@[simp] theorem partK_1 {S : Sto} {i : Int} : partK  (some (i, S)) = (some (some i, S)) := rfl
@[simp] theorem partK_2 : partK  none = (none) := rfl
@[simp] theorem fPart_ev {f : FE} {δ : DEnv} {S : Sto} : fPart f δ S = partK (asI (f δ S)) := by unfold fPart; cases asI (f δ S) <;> rfl
def slK3 (x : D) (lo : OIn) : Option (Option Int × Sto) → Option (D × Sto)
  | some (hi, S) => oSl x lo hi S
  | none => none
@[simp] theorem slK3_1 {x : D} {lo : OIn} {S : Sto} {hi : Option Int} : slK3 x lo (some (hi, S)) = (oSl x lo hi S) := rfl
@[simp] theorem slK3_2 {x : D} {lo : OIn} : slK3 x lo none = (none) := rfl
def slK2 (u : FO) (δ : DEnv) (x : D) : Option (Option Int × Sto) → Option (D × Sto)
  | some (lo, S) => slK3 x lo (u δ S)
  | none => none
@[simp] theorem slK2_1 {u : FO} {δ : DEnv} {x : D} {S : Sto} {lo : Option Int} : slK2 u δ x (some (lo, S)) = (slK3 x lo (u δ S)) := rfl
@[simp] theorem slK2_2 {u : FO} {δ : DEnv} {x : D} : slK2 u δ x none = (none) := rfl
def slK (l u : FO) (δ : DEnv) : Option (D × Sto) → Option (D × Sto)
  | some (x, S) => slK2 u δ x (l δ S)
  | none => none
@[simp] theorem slK_1 {l u : FO} {δ : DEnv} {S : Sto} {x : D} : slK l u δ (some (x, S)) = (slK2 u δ x (l δ S)) := rfl
@[simp] theorem slK_2 {l u : FO} {δ : DEnv} : slK l u δ none = (none) := rfl
@[simp] theorem fSl_ev {f : FE} {l u : FO} {δ : DEnv} {S : Sto} : fSl f l u δ S = slK l u δ (f δ S) := by
  unfold fSl
  cases f δ S with
  | none => rfl
  | some p =>
    obtain ⟨x, S1⟩ := p
    show (l δ S1).bind _ = slK2 u δ x (l δ S1)
    cases l δ S1 with
    | none => rfl
    | some q =>
      obtain ⟨y, S2⟩ := q
      show (u δ S2).bind _ = slK3 x y (u δ S2)
      cases u δ S2 <;> rfl
def revK : Option (D × Sto) → Option (D × Sto)
  | some (.loc i, S) => match S[i]? with
    | some (.lst ds) => some (.loc S.length, S ++ [.lst ds.reverse])
    | _ => none
  | _ => none
@[simp] theorem revK_1 {S : Sto} {i : Nat} : revK  (some (.loc i, S)) = (match S[i]? with
    | some (.lst ds) => some (.loc S.length, S ++ [.lst ds.reverse])
    | _ => none) := rfl
@[simp] theorem revK_2 : revK  none = (none) := rfl
@[simp] theorem fRevL_ev {f : FE} {δ : DEnv} {S : Sto} : fRevL f δ S = revK (f δ S) := by
  unfold fRevL
  cases f δ S with
  | none => rfl
  | some p => obtain ⟨x, S1⟩ := p; cases x <;> rfl
def cbK (b : FB) : Option (List D × Sto) → Option (D × Sto)
  | some (xs, S) => b xs S
  | none => none
@[simp] theorem cbK_1 {b : FB} {S : Sto} {xs : List D} : cbK b (some (xs, S)) = (b xs S) := rfl
@[simp] theorem cbK_2 {b : FB} : cbK b none = (none) := rfl
@[simp] theorem fCB_ev {b : FB} {g : FA} {δ : DEnv} {S : Sto} : fCB b g δ S = cbK b (g δ S) := by unfold fCB; cases g δ S <;> rfl
@[simp] theorem fCall_ev {c : Fn} {g : FA} {δ : DEnv} {S : Sto} : fCall c g δ S = cbK c (g δ S) := by unfold fCall; cases g δ S <;> rfl
@[simp] theorem fCall0_ev {c : Fn} {δ : DEnv} {S : Sto} : fCall0 c δ S = c [] S := rfl
def isiK (T : String) : Option (D × Sto) → Option (D × Sto)
  | some (d, S) => (kitB (tyD S d) T).map fun b => (.bl b, S)
  | none => none
@[simp] theorem isiK_1 {T : String} {S : Sto} {d : D} : isiK T (some (d, S)) = ((kitB (tyD S d) T).map fun b => (.bl b, S)) := rfl
@[simp] theorem isiK_2 {T : String} : isiK T none = (none) := rfl
@[simp] theorem fIsi_ev {T : String} {f : FE} {δ : DEnv} {S : Sto} : fIsi T f δ S = isiK T (f δ S) := by
  unfold fIsi
  cases f δ S with
  | none => rfl
  | some p => obtain ⟨x, S1⟩ := p; show (kitB (tyD S1 x) T).bind _ = (kitB (tyD S1 x) T).map _; cases kitB (tyD S1 x) T <;> rfl
def appK2 (i : Nat) : Option (D × Sto) → Option (D × Sto)
  | some (y, S) => match S[i]? with
    | some (.lst ds) => if ds.length < 100000 then some (.non, S.set i (.lst (ds ++ [y]))) else none
    | _ => none
  | none => none
@[simp] theorem appK2_1 {i : Nat} {S : Sto} {y : D} : appK2 i (some (y, S)) = (match S[i]? with
    | some (.lst ds) => if ds.length < 100000 then some (.non, S.set i (.lst (ds ++ [y]))) else none
    | _ => none) := rfl
@[simp] theorem appK2_2 {i : Nat} : appK2 i none = (none) := rfl
def appK (g : FE) (δ : DEnv) : Option (D × Sto) → Option (D × Sto)
  | some (.loc i, S) => match S[i]? with
    | some (.lst _) => appK2 i (g δ S)
    | _ => none
  | _ => none
@[simp] theorem appK_1 {g : FE} {δ : DEnv} {S : Sto} {i : Nat} : appK g δ (some (.loc i, S)) = (match S[i]? with
    | some (.lst _) => appK2 i (g δ S)
    | _ => none) := rfl
@[simp] theorem appK_2 {g : FE} {δ : DEnv} : appK g δ none = (none) := rfl
@[simp] theorem fApp_ev {f g : FE} {δ : DEnv} {S : Sto} : fApp f g δ S = appK g δ (f δ S) := by
  unfold fApp
  cases f δ S with
  | none => rfl
  | some p =>
    obtain ⟨x, S1⟩ := p
    cases x with
    | loc i =>
      show (match S1[i]? with | some (.lst _) => (g δ S1).bind _ | _ => none) = match S1[i]? with | some (.lst _) => appK2 i (g δ S1) | _ => none
      cases g δ S1 <;> rfl
    | _ => rfl
def extK2 (i : Nat) : Option (D × Sto) → Option (D × Sto)
  | some (.loc j, S) => match S[i]?, S[j]? with
    | some (.lst ds), some (.lst es) => if ds.length + es.length ≤ 100000 then some (.non, S.set i (.lst (ds ++ es))) else none
    | _, _ => none
  | _ => none
@[simp] theorem extK2_1 {i : Nat} {S : Sto} {j : Nat} : extK2 i (some (.loc j, S)) = (match S[i]?, S[j]? with
    | some (.lst ds), some (.lst es) => if ds.length + es.length ≤ 100000 then some (.non, S.set i (.lst (ds ++ es))) else none
    | _, _ => none) := rfl
@[simp] theorem extK2_2 {i : Nat} : extK2 i none = (none) := rfl
def extK (g : FE) (δ : DEnv) : Option (D × Sto) → Option (D × Sto)
  | some (.loc i, S) => match S[i]? with
    | some (.lst _) => extK2 i (g δ S)
    | _ => none
  | _ => none
@[simp] theorem extK_1 {g : FE} {δ : DEnv} {S : Sto} {i : Nat} : extK g δ (some (.loc i, S)) = (match S[i]? with
    | some (.lst _) => extK2 i (g δ S)
    | _ => none) := rfl
@[simp] theorem extK_2 {g : FE} {δ : DEnv} : extK g δ none = (none) := rfl
@[simp] theorem fExt_ev {f g : FE} {δ : DEnv} {S : Sto} : fExt f g δ S = extK g δ (f δ S) := by
  unfold fExt
  cases f δ S with
  | none => rfl
  | some p =>
    obtain ⟨x, S1⟩ := p
    cases x with
    | loc i =>
      show (match S1[i]? with | some (.lst _) => (g δ S1).bind _ | _ => none) = match S1[i]? with | some (.lst _) => extK2 i (g δ S1) | _ => none
      cases g δ S1 with
      | none => rfl
      | some q => obtain ⟨y, S2⟩ := q; cases y <;> rfl
    | _ => rfl
def popK : Option (D × Sto) → Option (D × Sto)
  | some (.loc i, S) => match S[i]? with
    | some (.lst ds) => (ds[ds.length - 1]?).map fun d => (d, S.set i (.lst ds.dropLast))
    | _ => none
  | _ => none
@[simp] theorem popK_1 {S : Sto} {i : Nat} : popK  (some (.loc i, S)) = (match S[i]? with
    | some (.lst ds) => (ds[ds.length - 1]?).map fun d => (d, S.set i (.lst ds.dropLast))
    | _ => none) := rfl
@[simp] theorem popK_2 : popK  none = (none) := rfl
@[simp] theorem fPop_ev {f : FE} {δ : DEnv} {S : Sto} : fPop f δ S = popK (f δ S) := by
  unfold fPop
  cases f δ S with
  | none => rfl
  | some p =>
    obtain ⟨x, S1⟩ := p
    cases x with
    | loc i =>
      show (match S1[i]? with | some (.lst ds) => (ds[ds.length - 1]?).bind _ | _ => none) = match S1[i]? with | some (.lst ds) => (ds[ds.length - 1]?).map _ | _ => none
      split
      · rename_i ds _
        cases ds[ds.length - 1]? <;> rfl
      · rfl
    | _ => rfl
@[simp] theorem fDict_ev {cs : List (Str × Int)} {δ : DEnv} {S : Sto} : fDict cs δ S = some (.loc S.length, S ++ [.dct (cKD cs)]) := rfl
@[simp] theorem fNewD_ev {δ : DEnv} {S : Sto} : fNewD δ S = some (.loc S.length, S ++ [.dct []]) := rfl
def getK3 (i : Nat) (y : D) : Option (D × Sto) → Option (D × Sto)
  | some (z, S) => match S[i]?, y with
    | some (.dct kvs), .str s => some ((valD kvs (.inr s)).getD z, S)
    | _, _ => none
  | none => none
@[simp] theorem getK3_1 {i : Nat} {y : D} {S : Sto} {z : D} : getK3 i y (some (z, S)) = (match S[i]?, y with
    | some (.dct kvs), .str s => some ((valD kvs (.inr s)).getD z, S)
    | _, _ => none) := rfl
@[simp] theorem getK3_2 {i : Nat} {y : D} : getK3 i y none = (none) := rfl
def getK2 (h : FE) (δ : DEnv) (i : Nat) : Option (D × Sto) → Option (D × Sto)
  | some (y, S) => getK3 i y (h δ S)
  | none => none
@[simp] theorem getK2_1 {h : FE} {δ : DEnv} {i : Nat} {S : Sto} {y : D} : getK2 h δ i (some (y, S)) = (getK3 i y (h δ S)) := rfl
@[simp] theorem getK2_2 {h : FE} {δ : DEnv} {i : Nat} : getK2 h δ i none = (none) := rfl
def getK (g h : FE) (δ : DEnv) : Option (D × Sto) → Option (D × Sto)
  | some (.loc i, S) => match S[i]? with
    | some (.dct _) => getK2 h δ i (g δ S)
    | _ => none
  | _ => none
@[simp] theorem getK_1 {g h : FE} {δ : DEnv} {S : Sto} {i : Nat} : getK g h δ (some (.loc i, S)) = (match S[i]? with
    | some (.dct _) => getK2 h δ i (g δ S)
    | _ => none) := rfl
@[simp] theorem getK_2 {g h : FE} {δ : DEnv} : getK g h δ none = (none) := rfl
@[simp] theorem fGet2_ev {f g h : FE} {δ : DEnv} {S : Sto} : fGet2 f g h δ S = getK g h δ (f δ S) := by
  unfold fGet2
  cases f δ S with
  | none => rfl
  | some p =>
    obtain ⟨x, S1⟩ := p
    cases x with
    | loc i =>
      show (match S1[i]? with | some (.dct _) => (g δ S1).bind _ | _ => none) = match S1[i]? with | some (.dct _) => getK2 h δ i (g δ S1) | _ => none
      cases g δ S1 with
      | none => rfl
      | some q =>
        obtain ⟨y, S2⟩ := q
        show (match S1[i]? with | some (.dct _) => (h δ S2).bind _ | _ => none) = match S1[i]? with | some (.dct _) => getK3 i y (h δ S2) | _ => none
        cases h δ S2 <;> rfl
    | _ => rfl
def joinK2 (x : D) : Option (D × Sto) → Option (D × Sto)
  | some (y, S) => match x, y with
    | .str a, .loc i => match S[i]? with
      | some (.lst ds) => (asStrs ds).bind fun ys => if (ys.map (·.length)).sum + ys.length * a.length ≤ 16777216 then some (.str (Txt.join a ys), S) else none
      | _ => none
    | _, _ => none
  | none => none
@[simp] theorem joinK2_1 {x : D} {S : Sto} {y : D} : joinK2 x (some (y, S)) = (match x, y with
    | .str a, .loc i => match S[i]? with
      | some (.lst ds) => (asStrs ds).bind fun ys => if (ys.map (·.length)).sum + ys.length * a.length ≤ 16777216 then some (.str (Txt.join a ys), S) else none
      | _ => none
    | _, _ => none) := rfl
@[simp] theorem joinK2_2 {x : D} : joinK2 x none = (none) := rfl
def joinK (g : FE) (δ : DEnv) : Option (D × Sto) → Option (D × Sto)
  | some (x, S) => joinK2 x (g δ S)
  | none => none
@[simp] theorem joinK_1 {g : FE} {δ : DEnv} {S : Sto} {x : D} : joinK g δ (some (x, S)) = (joinK2 x (g δ S)) := rfl
@[simp] theorem joinK_2 {g : FE} {δ : DEnv} : joinK g δ none = (none) := rfl
@[simp] theorem fJoin_ev {f g : FE} {δ : DEnv} {S : Sto} : fJoin f g δ S = joinK g δ (f δ S) := by
  unfold fJoin
  cases f δ S with
  | none => rfl
  | some p => obtain ⟨x, S1⟩ := p; show (g δ S1).bind _ = joinK2 x (g δ S1); cases g δ S1 <;> rfl
/-! statements -/
@[simp] theorem fsNext_ev {δ : DEnv} {S : Sto} : fsNext δ S = some (.nx δ, S) := rfl
@[simp] theorem fsBreak_ev {δ : DEnv} {S : Sto} : fsBreak δ S = some (.bk δ, S) := rfl
@[simp] theorem fsCont_ev {δ : DEnv} {S : Sto} : fsCont δ S = some (.ct δ, S) := rfl
def seqK (g : FS) : Option (Fl × Sto) → Option (Fl × Sto)
  | some (.nx δ, S) => g δ S
  | some (.rt d, S) => some (.rt d, S)
  | some (.bk δ, S) => some (.bk δ, S)
  | some (.ct δ, S) => some (.ct δ, S)
  | none => none
@[simp] theorem seqK_1 {g : FS} {S : Sto} {δ : DEnv} : seqK g (some (.nx δ, S)) = (g δ S) := rfl
@[simp] theorem seqK_2 {g : FS} {S : Sto} {d : D} : seqK g (some (.rt d, S)) = (some (.rt d, S)) := rfl
@[simp] theorem seqK_3 {g : FS} {S : Sto} {δ : DEnv} : seqK g (some (.bk δ, S)) = (some (.bk δ, S)) := rfl
@[simp] theorem seqK_4 {g : FS} {S : Sto} {δ : DEnv} : seqK g (some (.ct δ, S)) = (some (.ct δ, S)) := rfl
@[simp] theorem seqK_5 {g : FS} : seqK g none = (none) := rfl
@[simp] theorem fsSeq_ev {f g : FS} {δ : DEnv} {S : Sto} : fsSeq f g δ S = seqK g (f δ S) := by
  unfold fsSeq
  cases f δ S with
  | none => rfl
  | some p => obtain ⟨x, S1⟩ := p; cases x <;> rfl
def dropK (δ : DEnv) : Option (D × Sto) → Option (Fl × Sto)
  | some (_, S) => some (.nx δ, S)
  | none => none
@[simp] theorem dropK_1 {δ : DEnv} {S : Sto} {d : D} : dropK δ (some (d, S)) = (some (.nx δ, S)) := rfl
@[simp] theorem dropK_2 {δ : DEnv} : dropK δ none = (none) := rfl
@[simp] theorem fsDrop_ev {f : FE} {δ : DEnv} {S : Sto} : fsDrop f δ S = dropK δ (f δ S) := by unfold fsDrop; cases f δ S <;> rfl
def retK : Option (D × Sto) → Option (Fl × Sto)
  | some (d, S) => some (.rt d, S)
  | none => none
@[simp] theorem retK_1 {S : Sto} {d : D} : retK  (some (d, S)) = (some (.rt d, S)) := rfl
@[simp] theorem retK_2 : retK  none = (none) := rfl
@[simp] theorem fsRet_ev {f : FE} {δ : DEnv} {S : Sto} : fsRet f δ S = retK (f δ S) := by unfold fsRet; cases f δ S <;> rfl
def ifK (f g : FS) (δ : DEnv) : Option (Bool × Sto) → Option (Fl × Sto)
  | some (b, S) => if b = true then f δ S else g δ S
  | none => none
@[simp] theorem ifK_1 {f g : FS} {δ : DEnv} {S : Sto} {b : Bool} : ifK f g δ (some (b, S)) = (if b = true then f δ S else g δ S) := rfl
@[simp] theorem ifK_2 {f g : FS} {δ : DEnv} : ifK f g δ none = (none) := rfl
@[simp] theorem fsIf_ev {c : FT} {f g : FS} {δ : DEnv} {S : Sto} : fsIf c f g δ S = ifK f g δ (c δ S) := by unfold fsIf; cases c δ S <;> rfl
@[simp] theorem fgName_ev {i : Nat} {x : D} {δ : DEnv} {S : Sto} : fgName i x δ S = some (δ.set i (some x), S) := rfl
def g2K (h : FG) (d : D) : Option (DEnv × Sto) → Option (DEnv × Sto)
  | some (δ, S) => h d δ S
  | none => none
@[simp] theorem g2K_1 {h : FG} {d : D} {S : Sto} {δ : DEnv} : g2K h d (some (δ, S)) = (h d δ S) := rfl
@[simp] theorem g2K_2 {h : FG} {d : D} : g2K h d none = (none) := rfl
@[simp] theorem fg2_ev {g h : FG} {d1 d2 : D} {δ : DEnv} {S : Sto} : fg2 g h (.tup [d1, d2]) δ S = g2K h d2 (g d1 δ S) := by
  unfold fg2
  show (g d1 δ S).bind _ = _
  cases g d1 δ S <;> rfl
def subK2 (δ : DEnv) (x o : D) : Option (D × Sto) → Option (DEnv × Sto)
  | some (k, S) => match o, k with
    | .loc l, .int k => match S[l]? with
      | some (.lst ds) => (ixN ds.length k).bind fun j => some (δ, S.set l (.lst (ds.set j x)))
      | _ => none
    | _, _ => none
  | none => none
@[simp] theorem subK2_1 {δ : DEnv} {x o : D} {S : Sto} {k : D} : subK2 δ x o (some (k, S)) = (match o, k with
    | .loc l, .int k => match S[l]? with
      | some (.lst ds) => (ixN ds.length k).bind fun j => some (δ, S.set l (.lst (ds.set j x)))
      | _ => none
    | _, _ => none) := rfl
@[simp] theorem subK2_2 {δ : DEnv} {x o : D} : subK2 δ x o none = (none) := rfl
def subK (g : FE) (δ : DEnv) (x : D) : Option (D × Sto) → Option (DEnv × Sto)
  | some (o, S) => subK2 δ x o (g δ S)
  | none => none
@[simp] theorem subK_1 {g : FE} {δ : DEnv} {x : D} {S : Sto} {o : D} : subK g δ x (some (o, S)) = (subK2 δ x o (g δ S)) := rfl
@[simp] theorem subK_2 {g : FE} {δ : DEnv} {x : D} : subK g δ x none = (none) := rfl
@[simp] theorem fgSub_ev {f g : FE} {x : D} {δ : DEnv} {S : Sto} : fgSub f g x δ S = subK g δ x (f δ S) := by
  unfold fgSub
  cases f δ S with
  | none => rfl
  | some p =>
    obtain ⟨o, S1⟩ := p
    show (g δ S1).bind _ = subK2 δ x o (g δ S1)
    cases g δ S1 with
    | none => rfl
    | some q =>
      obtain ⟨k, S2⟩ := q
      rfl
def asgK2 : Option (DEnv × Sto) → Option (Fl × Sto)
  | some (δ, S) => some (.nx δ, S)
  | none => none
@[simp] theorem asgK2_1 {S : Sto} {δ : DEnv} : asgK2  (some (δ, S)) = (some (.nx δ, S)) := rfl
@[simp] theorem asgK2_2 : asgK2  none = (none) := rfl
def asgK (g : FG) (δ : DEnv) : Option (D × Sto) → Option (Fl × Sto)
  | some (x, S) => asgK2 (g x δ S)
  | none => none
@[simp] theorem asgK_1 {g : FG} {δ : DEnv} {S : Sto} {x : D} : asgK g δ (some (x, S)) = (asgK2 (g x δ S)) := rfl
@[simp] theorem asgK_2 {g : FG} {δ : DEnv} : asgK g δ none = (none) := rfl
@[simp] theorem fsAsg_ev {f : FE} {g : FG} {δ : DEnv} {S : Sto} : fsAsg f g δ S = asgK g δ (f δ S) := by
  unfold fsAsg
  cases f δ S with
  | none => rfl
  | some p => obtain ⟨x, S1⟩ := p; show (g x δ S1).bind _ = asgK2 (g x δ S1); cases g x δ S1 <;> rfl
def parK (i j : Nat) (δ : DEnv) : Option (List D × Sto) → Option (Fl × Sto)
  | some ([d1, d2], S) => some (.nx ((δ.set i (some d1)).set j (some d2)), S)
  | _ => none
@[simp] theorem parK_1 {i j : Nat} {δ : DEnv} {S : Sto} {d1 : D} {d2 : D} : parK i j δ (some ([d1, d2], S)) = (some (.nx ((δ.set i (some d1)).set j (some d2)), S)) := rfl
@[simp] theorem parK_2 {i j : Nat} {δ : DEnv} : parK i j δ none = (none) := rfl
@[simp] theorem fsPar_ev {i j : Nat} {u : FA} {δ : DEnv} {S : Sto} : fsPar i j u δ S = parK i j δ (u δ S) := by
  unfold fsPar parK
  cases u δ S with
  | none => rfl
  | some p =>
    obtain ⟨x, S1⟩ := p
    show (match x with | [d1, d2] => _ | _ => none) = _
    split
    · rfl
    · split
      · rename_i h _ _ _ _ e
        cases e
        exact absurd rfl (h _ _)
      · rfl
def augK (i : Nat) (h : Int → Int → Int) (δ : DEnv) (n : Int) : Option (Int × Sto) → Option (Fl × Sto)
  | some (k, S) => some (.nx (δ.set i (some (.int (h n k)))), S)
  | none => none
@[simp] theorem augK_1 {i : Nat} {h : Int → Int → Int} {δ : DEnv} {n : Int} {S : Sto} {k : Int} : augK i h δ n (some (k, S)) = (some (.nx (δ.set i (some (.int (h n k)))), S)) := rfl
@[simp] theorem augK_2 {i : Nat} {h : Int → Int → Int} {δ : DEnv} {n : Int} : augK i h δ n none = (none) := rfl
@[simp] theorem fsAugI_ev {i : Nat} {h : Int → Int → Int} {f : FE} {δ : DEnv} {S : Sto} {n : Int} (e : δ[i]? = some (some (.int n))) : fsAugI i h f δ S = augK i h δ n (asI (f δ S)) := by
  unfold fsAugI
  rw [e]
  show (asI (f δ S)).bind _ = _
  cases asI (f δ S) <;> rfl
/-! what is walked -/
def iAnyK : Option (D × Sto) → Option ((List D × Option (Nat × List D)) × Sto)
  | some (.tup ds, S) => some ((ds, none), S)
  | some (.str z, S) => some ((signsD z, none), S)
  | some (.loc j, S) => match S[j]? with
    | some (.lst ds) => some ((ds, some (j, ds)), S)
    | _ => none
  | _ => none
@[simp] theorem iAnyK_1 {S : Sto} {ds : List D} : iAnyK  (some (.tup ds, S)) = (some ((ds, none), S)) := rfl
@[simp] theorem iAnyK_2 {S : Sto} {z : Str} : iAnyK  (some (.str z, S)) = (some ((signsD z, none), S)) := rfl
@[simp] theorem iAnyK_3 {S : Sto} {j : Nat} : iAnyK  (some (.loc j, S)) = (match S[j]? with
    | some (.lst ds) => some ((ds, some (j, ds)), S)
    | _ => none) := rfl
@[simp] theorem iAnyK_4 : iAnyK  none = (none) := rfl
@[simp] theorem fiAny_ev {f : FE} {δ : DEnv} {S : Sto} : fiAny f δ S = iAnyK (f δ S) := by
  unfold fiAny
  cases f δ S with
  | none => rfl
  | some p => obtain ⟨x, S1⟩ := p; cases x <;> rfl
def rng1K : Option (List D × Sto) → Option ((List D × Option (Nat × List D)) × Sto)
  | some ([.int j], S) => if -1000000 ≤ j ∧ j ≤ 1000000 then some ((rangeD 0 j.toNat, none), S) else none
  | _ => none
@[simp] theorem rng1K_1 {S : Sto} {j : Int} : rng1K  (some ([.int j], S)) = (if -1000000 ≤ j ∧ j ≤ 1000000 then some ((rangeD 0 j.toNat, none), S) else none) := rfl
@[simp] theorem rng1K_2 : rng1K  none = (none) := rfl
@[simp] theorem fiRng1_ev {u : FA} {δ : DEnv} {S : Sto} : fiRng1 u δ S = rng1K (u δ S) := by
  unfold fiRng1 rng1K
  cases u δ S with
  | none => rfl
  | some p =>
    obtain ⟨x, S1⟩ := p
    show (match x with | [.int j] => _ | _ => none) = _
    split
    · rfl
    · split
      · rename_i h _ _ _ e
        cases e
        exact absurd rfl (h _)
      · rfl
def rng2K : Option (List D × Sto) → Option ((List D × Option (Nat × List D)) × Sto)
  | some ([.int i, .int j], S) => if (-1000000 ≤ i ∧ i ≤ 1000000) ∧ -1000000 ≤ j ∧ j ≤ 1000000 then some ((rangeD i (j - i).toNat, none), S) else none
  | _ => none
@[simp] theorem rng2K_1 {S : Sto} {i : Int} {j : Int} : rng2K  (some ([.int i, .int j], S)) = (if (-1000000 ≤ i ∧ i ≤ 1000000) ∧ -1000000 ≤ j ∧ j ≤ 1000000 then some ((rangeD i (j - i).toNat, none), S) else none) := rfl
@[simp] theorem rng2K_2 : rng2K  none = (none) := rfl
@[simp] theorem fiRng2_ev {u : FA} {δ : DEnv} {S : Sto} : fiRng2 u δ S = rng2K (u δ S) := by
  unfold fiRng2 rng2K
  cases u δ S with
  | none => rfl
  | some p =>
    obtain ⟨x, S1⟩ := p
    show (match x with | [.int i, .int j] => _ | _ => none) = _
    split
    · rfl
    · split
      · rename_i h _ _ _ _ e
        cases e
        exact absurd rfl (h _ _)
      · rfl
def enumK : Option (List D × Sto) → Option ((List D × Option (Nat × List D)) × Sto)
  | some ([.loc j], S) => match S[j]? with
    | some (.lst ds) => some ((enumD ds, some (j, ds)), S)
    | _ => none
  | _ => none
@[simp] theorem enumK_1 {S : Sto} {j : Nat} : enumK  (some ([.loc j], S)) = (match S[j]? with
    | some (.lst ds) => some ((enumD ds, some (j, ds)), S)
    | _ => none) := rfl
@[simp] theorem enumK_2 : enumK  none = (none) := rfl
@[simp] theorem fiEnum_ev {u : FA} {δ : DEnv} {S : Sto} : fiEnum u δ S = enumK (u δ S) := by
  unfold fiEnum enumK
  cases u δ S with
  | none => rfl
  | some p =>
    obtain ⟨x, S1⟩ := p
    show (match x with | [.loc j] => _ | _ => none) = _
    split
    · rfl
    · split
      · rename_i h _ _ _ e
        cases e
        exact absurd rfl (h _)
      · rfl
/-! loops -/
noncomputable def forK0 (g : FG) (b : FS) (δ : DEnv) : Option ((List D × Option (Nat × List D)) × Sto) → Option (Fl × Sto)
  | some ((xs, st), S) => forF st g b xs δ S
  | none => none
@[simp] theorem forK0_1 {g : FG} {b : FS} {δ : DEnv} {S : Sto} {st : Option (Nat × List D)} {xs : List D} : forK0 g b δ (some ((xs, st), S)) = (forF st g b xs δ S) := rfl
@[simp] theorem forK0_2 {g : FG} {b : FS} {δ : DEnv} : forK0 g b δ none = (none) := rfl
@[simp] theorem fsFor_ev {i : FI} {g : FG} {b : FS} {δ : DEnv} {S : Sto} : fsFor i g b δ S = forK0 g b δ (i δ S) := by unfold fsFor; cases i δ S <;> rfl
noncomputable def forK2 (st : OSt) (g : FG) (b : FS) (xs : List D) : Option (Fl × Sto) → Option (Fl × Sto)
  | some (.nx δ, S) => forF st g b xs δ S
  | some (.ct δ, S) => forF st g b xs δ S
  | some (.bk δ, S) => some (.nx δ, S)
  | some (.rt d, S) => some (.rt d, S)
  | none => none
@[simp] theorem forK2_1 {st : OSt} {g : FG} {b : FS} {xs : List D} {S : Sto} {δ : DEnv} : forK2 st g b xs (some (.nx δ, S)) = (forF st g b xs δ S) := rfl
@[simp] theorem forK2_2 {st : OSt} {g : FG} {b : FS} {xs : List D} {S : Sto} {δ : DEnv} : forK2 st g b xs (some (.ct δ, S)) = (forF st g b xs δ S) := rfl
@[simp] theorem forK2_3 {st : OSt} {g : FG} {b : FS} {xs : List D} {S : Sto} {δ : DEnv} : forK2 st g b xs (some (.bk δ, S)) = (some (.nx δ, S)) := rfl
@[simp] theorem forK2_4 {st : OSt} {g : FG} {b : FS} {xs : List D} {S : Sto} {d : D} : forK2 st g b xs (some (.rt d, S)) = (some (.rt d, S)) := rfl
@[simp] theorem forK2_5 {st : OSt} {g : FG} {b : FS} {xs : List D} : forK2 st g b xs none = (none) := rfl
noncomputable def forK (st : OSt) (g : FG) (b : FS) (xs : List D) : Option (DEnv × Sto) → Option (Fl × Sto)
  | some (δ, S) => forK2 st g b xs (b δ S)
  | none => none
@[simp] theorem forK_1 {st : OSt} {g : FG} {b : FS} {xs : List D} {S : Sto} {δ : DEnv} : forK st g b xs (some (δ, S)) = (forK2 st g b xs (b δ S)) := rfl
@[simp] theorem forK_2 {st : OSt} {g : FG} {b : FS} {xs : List D} : forK st g b xs none = (none) := rfl
theorem forF_nil {st : Option (Nat × List D)} {g : FG} {b : FS} {δ : DEnv} {S : Sto} (h : stOk st S) : forF st g b [] δ S = some (.nx δ, S) := if_pos h
theorem forF_cons {st : Option (Nat × List D)} {g : FG} {b : FS} {x : D} {xs : List D} {δ : DEnv} {S : Sto} (h : stOk st S) : forF st g b (x :: xs) δ S = forK st g b xs (g x δ S) := by
  rw [forF, if_pos h]
  cases g x δ S with
  | none => rfl
  | some p =>
    obtain ⟨δ1, S1⟩ := p
    show (b δ1 S1).bind _ = forK2 st g b xs (b δ1 S1)
    cases b δ1 S1 with
    | none => rfl
    | some r => obtain ⟨r, S2⟩ := r; cases r <;> rfl
@[simp] theorem stOk_n {S : Sto} : stOk none S := trivial
theorem stOk_s {S : Sto} {j : Nat} {ds : List D} (h : S[j]? = some (.lst ds)) : stOk (some (j, ds)) S := h
@[simp] theorem forF_nil0 {g : FG} {b : FS} {δ : DEnv} {S : Sto} : forF none g b [] δ S = some (.nx δ, S) := forF_nil stOk_n
@[simp] theorem forF_cons0 {g : FG} {b : FS} {x : D} {xs : List D} {δ : DEnv} {S : Sto} : forF none g b (x :: xs) δ S = forK none g b xs (g x δ S) := forF_cons stOk_n
def whK2 (c : FT) (b : FS) (n : Nat) : Option (Fl × Sto) → Option (Fl × Sto)
  | some (.nx δ, S) => whileF c b n δ S
  | some (.ct δ, S) => whileF c b n δ S
  | some (.bk δ, S) => some (.nx δ, S)
  | some (.rt d, S) => some (.rt d, S)
  | none => none
@[simp] theorem whK2_1 {c : FT} {b : FS} {n : Nat} {S : Sto} {δ : DEnv} : whK2 c b n (some (.nx δ, S)) = (whileF c b n δ S) := rfl
@[simp] theorem whK2_2 {c : FT} {b : FS} {n : Nat} {S : Sto} {δ : DEnv} : whK2 c b n (some (.ct δ, S)) = (whileF c b n δ S) := rfl
@[simp] theorem whK2_3 {c : FT} {b : FS} {n : Nat} {S : Sto} {δ : DEnv} : whK2 c b n (some (.bk δ, S)) = (some (.nx δ, S)) := rfl
@[simp] theorem whK2_4 {c : FT} {b : FS} {n : Nat} {S : Sto} {d : D} : whK2 c b n (some (.rt d, S)) = (some (.rt d, S)) := rfl
@[simp] theorem whK2_5 {c : FT} {b : FS} {n : Nat} : whK2 c b n none = (none) := rfl
def whK (c : FT) (b : FS) (n : Nat) (δ : DEnv) : Option (Bool × Sto) → Option (Fl × Sto)
  | some (k, S) => if k = true then whK2 c b n (b δ S) else some (.nx δ, S)
  | none => none
@[simp] theorem whK_1 {c : FT} {b : FS} {n : Nat} {δ : DEnv} {S : Sto} {k : Bool} : whK c b n δ (some (k, S)) = (if k = true then whK2 c b n (b δ S) else some (.nx δ, S)) := rfl
@[simp] theorem whK_2 {c : FT} {b : FS} {n : Nat} {δ : DEnv} : whK c b n δ none = (none) := rfl
theorem whileF_succ {c : FT} {b : FS} {n : Nat} {δ : DEnv} {S : Sto} : whileF c b (n + 1) δ S = whK c b n δ (c δ S) := by
  rw [whileF]
  cases c δ S with
  | none => rfl
  | some p =>
    obtain ⟨k, S1⟩ := p
    cases k with
    | false => rfl
    | true =>
      show (b δ S1).bind _ = whK2 c b n (b δ S1)
      cases b δ S1 with
      | none => rfl
      | some r => obtain ⟨r, S2⟩ := r; cases r <;> rfl
@[simp] theorem fsWhile_ev {c : FT} {b : FS} {δ : DEnv} {S : Sto} : fsWhile c b δ S = whileF c b fuelW δ S := rfl
noncomputable def lcK0 (i : Nat) (t : FT) (e : FE) (δ : DEnv) : Option ((List D × Option (Nat × List D)) × Sto) → Option (D × Sto)
  | some ((xs, st), S) => lcF st i S.length t e xs (δ.set i none) (S ++ [.lst []])
  | none => none
@[simp] theorem lcK0_1 {i : Nat} {t : FT} {e : FE} {δ : DEnv} {S : Sto} {st : Option (Nat × List D)} {xs : List D} : lcK0 i t e δ (some ((xs, st), S)) = (lcF st i S.length t e xs (δ.set i none) (S ++ [.lst []])) := rfl
@[simp] theorem lcK0_2 {i : Nat} {t : FT} {e : FE} {δ : DEnv} : lcK0 i t e δ none = (none) := rfl
@[simp] theorem fLc_ev {di : FI} {i : Nat} {t : FT} {e : FE} {δ : DEnv} {S : Sto} : fLc di i t e δ S = lcK0 i t e δ (di δ S) := by unfold fLc; cases di δ S <;> rfl
noncomputable def lcK2 (st : OSt) (i l : Nat) (t : FT) (e : FE) (xs : List D) (δ : DEnv) : Option (D × Sto) → Option (D × Sto)
  | some (y, S) => match S[l]? with
    | some (.lst acc) => if acc.length < 100000 then lcF st i l t e xs δ (S.set l (.lst (acc ++ [y]))) else none
    | _ => none
  | none => none
@[simp] theorem lcK2_1 {st : OSt} {i l : Nat} {t : FT} {e : FE} {xs : List D} {δ : DEnv} {S : Sto} {y : D} : lcK2 st i l t e xs δ (some (y, S)) = (match S[l]? with
    | some (.lst acc) => if acc.length < 100000 then lcF st i l t e xs δ (S.set l (.lst (acc ++ [y]))) else none
    | _ => none) := rfl
@[simp] theorem lcK2_2 {st : OSt} {i l : Nat} {t : FT} {e : FE} {xs : List D} {δ : DEnv} : lcK2 st i l t e xs δ none = (none) := rfl
noncomputable def lcK (st : OSt) (i l : Nat) (t : FT) (e : FE) (x : D) (xs : List D) (δ : DEnv) : Option (Bool × Sto) → Option (D × Sto)
  | some (b, S) => if b = true then lcK2 st i l t e xs δ (e (δ.set i (some x)) S) else lcF st i l t e xs δ S
  | none => none
@[simp] theorem lcK_1 {st : OSt} {i l : Nat} {t : FT} {e : FE} {x : D} {xs : List D} {δ : DEnv} {S : Sto} {b : Bool} : lcK st i l t e x xs δ (some (b, S)) = (if b = true then lcK2 st i l t e xs δ (e (δ.set i (some x)) S) else lcF st i l t e xs δ S) := rfl
@[simp] theorem lcK_2 {st : OSt} {i l : Nat} {t : FT} {e : FE} {x : D} {xs : List D} {δ : DEnv} : lcK st i l t e x xs δ none = (none) := rfl
theorem lcF_nil {st : Option (Nat × List D)} {i l : Nat} {t : FT} {e : FE} {δ : DEnv} {S : Sto} (h : stOk st S) : lcF st i l t e [] δ S = some (.loc l, S) := if_pos h
theorem lcF_cons {st : Option (Nat × List D)} {i l : Nat} {t : FT} {e : FE} {x : D} {xs : List D} {δ : DEnv} {S : Sto} (h : stOk st S) : lcF st i l t e (x :: xs) δ S = lcK st i l t e x xs δ (t (δ.set i (some x)) S) := by
  rw [lcF, if_pos h]
  cases t (δ.set i (some x)) S with
  | none => rfl
  | some p =>
    obtain ⟨k, S1⟩ := p
    cases k with
    | false => rfl
    | true =>
      show (e (δ.set i (some x)) S1).bind _ = lcK2 st i l t e xs δ (e (δ.set i (some x)) S1)
      cases e (δ.set i (some x)) S1 <;> rfl
@[simp] theorem lcF_nil0 {i l : Nat} {t : FT} {e : FE} {δ : DEnv} {S : Sto} : lcF none i l t e [] δ S = some (.loc l, S) := lcF_nil stOk_n
@[simp] theorem lcF_cons0 {i l : Nat} {t : FT} {e : FE} {x : D} {xs : List D} {δ : DEnv} {S : Sto} : lcF none i l t e (x :: xs) δ S = lcK none i l t e x xs δ (t (δ.set i (some x)) S) := lcF_cons stOk_n
@[simp] theorem fYes_ev {δ : DEnv} {S : Sto} : fYes δ S = some (true, S) := rfl
theorem fDef_ev {n N : Nat} {b : FS} {ds : List D} {S : Sto} (h : ds.length = n) : fDef n N b ds S = retF (b (startD N ds) S) := if_pos h
/-! operators -/
section
variable {i j : Int} {l k : Nat} {S : Sto} {a b : List D} {x y : Str} {d : D} {g : Int → Int → D} {f : Bool → Bool} {lo hi : Option Int}
@[simp] theorem oI0_ii : oI0 g (.int i) (.int j) S = some (g i j, S) := rfl
@[simp] theorem oAdd_ii : oAdd (.int i) (.int j) S = some (.int (i + j), S) := rfl
@[simp] theorem oAdd_tt : oAdd (.tup a) (.tup b) S = (if a.length + b.length ≤ 100000 then some (.tup (a ++ b), S) else none) := rfl
@[simp] theorem oAdd_ss : oAdd (.str x) (.str y) S = (if x.length + y.length ≤ 100000 then some (.str (x ++ y), S) else none) := rfl
@[simp] theorem oAdd_ll : oAdd (.loc l) (.loc k) S = (match S[l]?, S[k]? with
    | some (.lst a), some (.lst b) => if a.length + b.length ≤ 100000 then some (.loc S.length, S ++ [.lst (a ++ b)]) else none
    | _, _ => none) := rfl
@[simp] theorem oIs_n : oIs f d .non S = some (.bl (f (isNonD d)), S) := rfl
@[simp] theorem oIx_t : oIx (.tup a) (.int i) S = (atI a i).bind (fun d => some (d, S)) := rfl
@[simp] theorem oIx_l : oIx (.loc l) (.int i) S = (match S[l]? with
    | some (.lst ds) => (atI ds i).bind fun d => some (d, S)
    | _ => none) := rfl
@[simp] theorem oIx_s : oIx (.str x) (.int i) S = (if x.length ≤ 100000 then (atI x.cps.toList i).bind fun c => some (.str ⟨#[c]⟩, S) else none) := rfl
@[simp] theorem oSl_t : oSl (.tup a) lo hi S = some (.tup (cutD a lo hi), S) := rfl
@[simp] theorem oSl_l : oSl (.loc l) lo hi S = (match S[l]? with
    | some (.lst ds) => some (.loc S.length, S ++ [.lst (cutD ds lo hi)])
    | _ => none) := rfl
@[simp] theorem oSl_s {ns : List Int} : oSl (.scr ns) lo hi S = some (.loc S.length, S ++ [.lst (cutD (ns.map .int) lo hi)]) := rfl
@[simp] theorem bLen_t : bLen [.tup a] S = some (.int a.length, S) := rfl
@[simp] theorem bLen_s : bLen [.str x] S = (if x.length ≤ 100000 then some (.int x.length, S) else none) := rfl
@[simp] theorem bLen_l : bLen [.loc l] S = (match S[l]? with
    | some (.lst ds) => some (.int ds.length, S)
    | _ => none) := rfl
@[simp] theorem bAbs_i : bAbs [.int i] S = some (.int (if i < 0 then -i else i), S) := rfl
@[simp] theorem bInt_i : bInt [.int i] S = some (.int i, S) := rfl
@[simp] theorem bInt_b {b : Bool} : bInt [.bl b] S = some (.int (if b then 1 else 0), S) := rfl
@[simp] theorem bSum_l : bSum [.loc l] S = (match S[l]? with
    | some (.lst ds) => (asInts ds).bind fun ns => some (.int ns.sum, S)
    | _ => none) := rfl
@[simp] theorem bAll_l : bAll [.loc l] S = (match S[l]? with
    | some (.lst ds) => (asBls ds).bind fun ns => some (.bl (ns.all id), S)
    | _ => none) := rfl
@[simp] theorem bTupleOf_l : bTupleOf [.loc l] S = (match S[l]? with
    | some (.lst ds) => some (.tup ds, S)
    | _ => none) := rfl
@[simp] theorem bTupleOf_t : bTupleOf [.tup a] S = some (.tup a, S) := rfl
@[simp] theorem bListOf_l : bListOf [.loc l] S = (match S[l]? with
    | some (.lst ds) => some (.loc S.length, S ++ [.lst ds])
    | _ => none) := rfl
@[simp] theorem bListOf_t : bListOf [.tup a] S = some (.loc S.length, S ++ [.lst a]) := rfl
@[simp] theorem bMax_i : bMax [.int i, .int j] S = some (.int (if j > i then j else i), S) := rfl
@[simp] theorem bMin_i : bMin [.int i, .int j] S = some (.int (if j < i then j else i), S) := rfl
@[simp] theorem oMod_ii (h : 0 < j) : oI (fun _ j => 0 < j) g (.int i) (.int j) S = some (g i j, S) := oI_int h
theorem oEq_ll : oEq f (.loc l) (.loc k) S = (match S[l]?, S[k]? with
    | some (.lst a), some (.lst []) => some (.bl (f a.isEmpty), S)
    | _, _ => none) := by
  cases h : S[l]? with
  | none => simp [oEq, emp, h]
  | some o =>
    cases o with
    | dct _ => simp [oEq, emp, h]
    | lst a =>
      cases h2 : S[k]? with
      | none => simp [oEq, emp, h, h2]
      | some o2 =>
        cases o2 with
        | dct _ => simp [oEq, emp, h, h2]
        | lst b => cases b <;> simp [oEq, emp, h, h2]
@[simp] theorem oIn_st : oIn (.str x) (.tup a) S = (asStrs a).map (fun ys => (.bl (ys.any (· == x)), S)) := rfl
@[simp] theorem oIn_sl : oIn (.str x) (.loc l) S = (match S[l]? with
    | some (.lst ds) => (asStrs ds).map fun ys => (.bl (ys.any (· == x)), S)
    | _ => none) := rfl
@[simp] theorem oIn_ss {c : Nat} : oIn (.str ⟨#[c]⟩) (.str y) S = some (.bl (decide (c ∈ y.cps.toList)), S) := rfl
@[simp] theorem oIn_pr : oIn (.tup [d, .int i]) (.tup a) S = (if hOkD S d = true then (asPrs a).map fun ys => (.bl (ys.any fun y => hEqD y.1 d && y.2 == i), S) else none) := rfl
@[simp] theorem oNotIn_st : oNotIn (.str x) (.tup a) S = (asStrs a).map (fun ys => (.bl (!ys.any (· == x)), S)) := rfl
@[simp] theorem oNotIn_sl : oNotIn (.str x) (.loc l) S = (match S[l]? with
    | some (.lst ds) => (asStrs ds).map fun ys => (.bl (!ys.any (· == x)), S)
    | _ => none) := rfl
@[simp] theorem oNotIn_ss {c : Nat} : oNotIn (.str ⟨#[c]⟩) (.str y) S = some (.bl (!decide (c ∈ y.cps.toList)), S) := rfl
end
end DL

set_option Elab.async false
set_option linter.all false
set_option maxRecDepth 100000
set_option maxHeartbeats 1000000
namespace DL
open PySem L2 PyProof.Rows
/-! ### repr, dicts of texts and ints too -/
def dcK (l : List (Str × Int)) : List (Key × D) := l.map fun p => (.inr p.1, .int p.2)
def dcV (l : List (Str × Int)) : List (Key × V) := l.map fun p => (.inr p.1, .int p.2)
def dcP (l : List (Str × Int)) : List (PyData × PyData) := l.map fun p => (.str p.1, .int p.2)
mutual
inductive Dq (K : PySem.W.Frag) (H : Hp) : V → PyData → Prop
  | non : Dq K H .non .none
  | bl (b : Bool) : Dq K H (.bl b) (.bool b)
  | int (i : Int) : Dq K H (.int i) (.int i)
  | str (x : Str) : Dq K H (.str x) (.str x)
  | lst {a : Addr} {xs : List V} {ds : List PyData} : H a = some (.lst xs) → DqAll K H xs ds → Dq K H (.ref a) (.list ds)
  | tup {a : Addr} {xs : List V} {ds : List PyData} : SqT K H a xs → DqAll K H xs ds → Dq K H (.ref a) (.tuple ds)
  | dct {a : Addr} {l : List (Str × Int)} : H a = some (.dK (dcV l)) → Dq K H (.ref a) (.dict (dcP l))
inductive DqAll (K : PySem.W.Frag) (H : Hp) : List V → List PyData → Prop
  | nil : DqAll K H [] []
  | cons {v : V} {vs : List V} {d : PyData} {ds : List PyData} : Dq K H v d → DqAll K H vs ds → DqAll K H (v :: vs) (d :: ds)
end
section
variable {X : Cx} {pins : List (Addr × Obj)} {σ : L2.St} {H : Hp} {s : Shared}
theorem dict_reads {P : Program} {w : World} {h : Heap} : ∀ (l : List (Str × Int)) (es : List DictEntry) (vs : List (Key × Value)), KV (dcV l) vs → Pairs (mixKind P w) es vs → ReadsAll h (es.map (·.key)) ((dcP l).map (·.1)) [] ∧ ReadsAll h (es.map (·.val)) ((dcP l).map (·.2)) []
  | [], es, vs, r, p => by
    cases r
    cases p
    exact ⟨.nil, .nil⟩
  | (x, i) :: l, es, vs, r, p => by
    cases r with
    | @cons _ kv _ l2 r1 r2 =>
      cases p with
      | @cons e _ es _ p1 p2 p3 =>
        obtain ⟨q1, q2⟩ := dict_reads l _ _ r2 p3
        obtain ⟨e1, e2⟩ := r1
        have e1 : kv.1 = Sum.inr x := e1.symm
        rw [e1] at p1
        have p1 : keyIs (Sum.inr x) e.key = true := p1
        rcases keyIs_shape p1 with ⟨_, _, z, _⟩ | ⟨y, t, z, ek⟩
        · cases z
        cases z
        obtain ⟨t2, e2⟩ := e2
        rw [e2] at p2
        constructor
        · simp only [List.map_cons, dcP]
          rw [ek]
          exact ReadsAll.cons (as := []) (bs := []) (.str _ _) q1
        · simp only [List.map_cons, dcP]
          rw [p2]
          exact ReadsAll.cons (as := []) (bs := []) (.int _ _) q2
mutual
theorem Dq.reads (I : Inv X pins σ H s) : ∀ (d : PyData) (v : V) (u : Value), Dq X.K H v d → RelV v u → ∃ as, Reads s.heap u d as ∧ ∀ a ∈ as, H a ≠ none
  | .none, _, _, h, r => by
    cases h
    cases r
    exact ⟨_, Reads.none, by simp⟩
  | .bool b, _, _, h, r => by
    cases h
    cases r
    exact ⟨_, Reads.bool b, by simp⟩
  | .int i, _, _, h, r => by
    cases h
    obtain ⟨t, rfl⟩ := r
    exact ⟨_, Reads.int i t, by simp⟩
  | .str x, _, _, h, r => by
    cases h
    obtain ⟨t, rfl⟩ := r
    exact ⟨_, Reads.str x t, by simp⟩
  | .list ds, _, _, h, r => by
    cases h with
    | lst hs ha =>
      cases r
      obtain ⟨its, rv, ⟨o, n, ho, hc, _, hd⟩, _⟩ := I.list (SqL.of hs)
      obtain ⟨as, hr, hn⟩ := Dq.readsAll I ds _ its ha rv
      refine ⟨_, Reads.list ho hc hd hr, fun b hb => ?_⟩
      rcases List.mem_cons.mp hb with rfl | hb
      · rw [hs]; simp
      · exact hn b hb
  | .tuple ds, _, _, h, r => by
    cases h with
    | tup hs ha =>
      cases r
      obtain ⟨its, rv, ⟨o, ho, hc, n, hd⟩, _⟩ := I.tuple hs
      obtain ⟨as, hr, hn⟩ := Dq.readsAll I ds _ its ha rv
      exact ⟨_, Reads.tuple ho hc hd hr, hn⟩
  | .dict kvs, _, _, h, r => by
    cases h with
    | @dct a l hs =>
      cases r
      obtain ⟨_, _, vs, rel, o, es, ep, ho, hx, hd, _, hp, _⟩ := dk_of I.hok hs
      obtain ⟨q1, q2⟩ := dict_reads (h := s.heap) l es.toList vs rel hp
      refine ⟨_, Reads.dict ho hx.1 hd q1 q2, fun b hb => ?_⟩
      simp only [List.append_nil, List.mem_singleton] at hb
      subst hb
      rw [hs]; simp
theorem Dq.readsAll (I : Inv X pins σ H s) : ∀ (ds : List PyData) (vs : List V) (us : List Value), DqAll X.K H vs ds → Vals vs us → ∃ as, ReadsAll s.heap us ds as ∧ ∀ a ∈ as, H a ≠ none
  | [], _, _, h, r => by
    cases h
    cases r
    exact ⟨_, ReadsAll.nil, by simp⟩
  | d :: ds, _, _, h, r => by
    cases h with
    | cons h1 h2 =>
      cases r with
      | cons r1 r2 =>
        obtain ⟨as, q1, n1⟩ := Dq.reads I d _ _ h1 r1
        obtain ⟨bs, q2, n2⟩ := Dq.readsAll I ds _ _ h2 r2
        exact ⟨_, ReadsAll.cons q1 q2, fun b hb => (List.mem_append.mp hb).elim (n1 b) (n2 b)⟩
end
def HasSys (h : Heap) : Prop := ∃ m, h.Ns sysModules m
theorem sys_free (I : Inv X pins σ H s) (hs : HasSys X.base) : H sysModules = none := by
  obtain ⟨m, o, es, ep, ho, _⟩ := hs
  exact (I.bs _ o ho).2
end
section
variable {X : Cx}
def vReprD (K : PySem.W.Frag) : List V → Hp → VK → Prop := fun xs H Q => ∃ x p, xs = [x] ∧ Dq K H x p ∧ p.showable = true ∧ p.shown.length ≤ sizeLine ∧ p.depth ≤ 60 ∧ Q (.str p.shown) H
theorem call_reprD (hsy : HasSys X.base) (hg : X.A.guards = some []) (hu : X.A.units + 64 < cLine) : CallR X (.builtin "repr") (vReprD X.K) := by
  intro pins s σ H xs us Q I r h
  obtain ⟨x, p, rfl, hd, hs, hz, hp, q⟩ := h
  obtain ⟨u, rfl, r1⟩ := vals1 r
  obtain ⟨as, rd, hn⟩ := Dq.reads I p x u hd r1
  have hsm : sysModules ∉ as := fun z => hn _ z (sys_free I hsy)
  have fin : ∀ (h' : Heap) (t : Tok) (tk : Nat), (∀ b o, s.heap.get? b = some o → h'.get? b = some o) → EP X pins σ Q (.str p.shown t) { s with heap := h', toks := tk } :=
    fun h' t tk hk => ⟨.str p.shown, H, I.kept hk, ⟨t, rfl⟩, q⟩
  cases p with
  | none =>
    cases rd
    have e : PyData.shown .none = ("None" : Str) := by simp [PyData.shown]
    rw [e] at fin
    exact PySem.P.repr_of_none (fin s.heap _ _ fun _ _ z => z)
  | bool b =>
    cases rd
    have e : PyData.shown (.bool b) = (if b then ("True" : Str) else ("False" : Str)) := by simp only [PyData.shown]
    rw [e] at fin
    exact PySem.P.repr_of_bool (fin s.heap _ _ fun _ _ z => z)
  | int i =>
    cases rd
    have e : PyData.shown (.int i) = ((toString i : String) : Str) := by simp only [PyData.shown]
    rw [e] at fin
    exact PySem.P.repr_of_int (by simpa only [PyData.showable, decide_eq_true_eq] using hs) (fin s.heap _ _ fun _ _ z => z)
  | str z =>
    cases rd
    have e : PyData.shown (.str z) = reprText z := by simp only [PyData.shown]
    rw [e] at fin hz
    exact PySem.P.repr_of_str (fin s.heap _ _ fun _ _ z => z) hz
  | list l =>
    cases rd with
    | list h1 h2 h3 h4 => exact repr_of_reads' (.list h1 h2 h3 h4) hs (fun _ => hsm) hg (by omega) (fun _ _ z => z) (fun h' t tk hk => fin h' t tk hk) hz
  | tuple l =>
    cases rd with
    | tuple h1 h2 h3 h4 => exact repr_of_reads' (.tuple h1 h2 h3 h4) hs (fun _ => hsm) hg (by omega) (fun _ _ z => z) (fun h' t tk hk => fin h' t tk hk) hz
  | dict l =>
    cases rd with
    | dict h1 h2 h3 h4 h5 => exact repr_of_reads' (.dict h1 h2 h3 h4 h5) hs (fun _ => hsm) hg (by omega) (fun _ _ z => z) (fun h' t tk hk => fin h' t tk hk) hz
end
mutual
inductive PyQ (S : Sto) : D → PyData → Prop
  | non : PyQ S .non .none
  | bl (b : Bool) : PyQ S (.bl b) (.bool b)
  | int (i : Int) : PyQ S (.int i) (.int i)
  | str (x : Str) : PyQ S (.str x) (.str x)
  | tup {ds : List D} {ps : List PyData} : PyQA S ds ps → PyQ S (.tup ds) (.tuple ps)
  | lst {i : Nat} {ds : List D} {ps : List PyData} : S[i]? = some (.lst ds) → PyQA S ds ps → PyQ S (.loc i) (.list ps)
  | dct {i : Nat} {l : List (Str × Int)} : S[i]? = some (.dct (dcK l)) → PyQ S (.loc i) (.dict (dcP l))
inductive PyQA (S : Sto) : List D → List PyData → Prop
  | nil : PyQA S [] []
  | cons {d : D} {ds : List D} {p : PyData} {ps : List PyData} : PyQ S d p → PyQA S ds ps → PyQA S (d :: ds) (p :: ps)
end
section
variable {K : PySem.W.Frag} {H : Hp} {m : Mp} {S : Sto}
theorem kws_of : ∀ (l : List (Str × Int)) (kws : List (Key × V)), kws.map (·.1) = (dcK l).map (·.1) → DvA K H m (kws.map (·.2)) ((dcK l).map (·.2)) → kws = dcV l
  | [], kws, h, _ => by
    have : kws = [] := by simpa [dcK] using h
    rw [this]; rfl
  | (x, i) :: l, kws, h, r => by
    cases kws with
    | nil => simp [dcK] at h
    | cons p kws =>
      simp only [dcK, List.map_cons, List.cons.injEq] at h
      simp only [dcK, List.map_cons] at r
      cases r with
      | cons r1 r2 =>
        have e := kws_of l kws h.2 r2
        obtain ⟨k, v⟩ := p
        have h1 : k = Sum.inr x := h.1
        have r1 : Dv K H m v (.int i) := r1
        cases r1
        rw [e, h1]; rfl
mutual
theorem dq_of (R : Rel K H m S) : ∀ (p : PyData) (d : D) (v : V), PyQ S d p → Dv K H m v d → Dq K H v p
  | .none, _, _, h, r => by cases h; cases r; exact .non
  | .bool b, _, _, h, r => by cases h; cases r; exact .bl b
  | .int i, _, _, h, r => by cases h; cases r; exact .int i
  | .str x, _, _, h, r => by cases h; cases r; exact .str x
  | .tuple ps, _, _, h, r => by
    cases h with
    | tup ha =>
      cases r with
      | tup hs hr => exact .tup hs (dqA_of R ps _ _ ha hr)
  | .list ps, _, _, h, r => by
    cases h with
    | lst hs ha =>
      obtain ⟨a, vs, rfl, _, hH, hr⟩ := R.lst r hs
      exact .lst hH (dqA_of R ps _ _ ha hr)
  | .dict kvs, _, _, h, r => by
    cases h with
    | @dct i l hs =>
      cases r with
      | @loc _ a e =>
        obtain ⟨kws, hH, hk, hv⟩ := R.ob i a _ e hs
        rw [kws_of l kws hk hv] at hH
        exact .dct hH
theorem dqA_of (R : Rel K H m S) : ∀ (ps : List PyData) (ds : List D) (vs : List V), PyQA S ds ps → DvA K H m vs ds → DqAll K H vs ps
  | [], _, _, h, r => by cases h; cases r; exact .nil
  | p :: ps, _, _, h, r => by
    cases h with
    | cons h1 h2 =>
      cases r with
      | cons r1 r2 => exact .cons (dq_of R p _ _ h1 r1) (dqA_of R ps _ _ h2 r2)
end
end
def ShowsD (S : Sto) (d : D) (p : PyData) : Prop := PyQ S d p ∧ p.showable = true ∧ p.shown.length ≤ sizeLine ∧ p.depth ≤ 60
def unK (p : Key × D) : Str × Int := ((match p.1 with | .inr x => x | .inl _ => Str.ofString ""), (match p.2 with | .int i => i | _ => 0))
mutual
theorem pyq_fun {S : Sto} : ∀ (p q : PyData) (d : D), PyQ S d p → PyQ S d q → p = q
  | .none, _, _, h, r => by cases h; cases r; rfl
  | .bool b, _, _, h, r => by cases h; cases r; rfl
  | .int i, _, _, h, r => by cases h; cases r; rfl
  | .str x, _, _, h, r => by cases h; cases r; rfl
  | .tuple ps, _, _, h, r => by
    cases h with
    | tup ha => cases r with | tup hb => rw [pyqA_fun ps _ _ ha hb]
  | .list ps, _, _, h, r => by
    cases h with
    | lst hs ha =>
      cases r with
      | lst hs' hb => rw [hs] at hs'; cases hs'; rw [pyqA_fun ps _ _ ha hb]
      | dct hs' => rw [hs] at hs'; cases hs'
  | .dict kvs, _, _, h, r => by
    cases h with
    | dct hs =>
      cases r with
      | lst hs' hb => rw [hs] at hs'; cases hs'
      | @dct _ l' hs' =>
        rw [hs] at hs'
        rename_i l
        have e : dcK l = dcK l' := by injection hs' with z; injection z
        have : l = l' := by
          have := congrArg (List.map unK) e
          simpa [dcK, unK, Function.comp_def] using this
        rw [this]
theorem pyqA_fun {S : Sto} : ∀ (ps qs : List PyData) (ds : List D), PyQA S ds ps → PyQA S ds qs → ps = qs
  | [], _, _, h, r => by cases h; cases r; rfl
  | p :: ps, _, _, h, r => by
    cases h with
    | cons h1 h2 => cases r with | cons r1 r2 => rw [pyq_fun p _ _ h1 r1, pyqA_fun ps _ _ h2 r2]
end
open Classical in
noncomputable def bReprD (xs : List D) (S : Sto) : Option (D × Sto) := match xs with
  | [d] => if h : ∃ p, ShowsD S d p then some (.str h.choose.shown, S) else none
  | _ => none
open Classical in
theorem bReprD_eq {S : Sto} {d : D} {p : PyData} (h : ShowsD S d p) : bReprD [d] S = some (.str p.shown, S) := by
  have hh : ∃ p, ShowsD S d p := ⟨p, h⟩
  show (if h : ∃ p, ShowsD S d p then some (D.str h.choose.shown, S) else none) = _
  rw [dif_pos hh, pyq_fun _ _ _ hh.choose_spec.1 h.1]
section
variable {X : Cx}
theorem cd_reprD (hsy : HasSys X.base) (hg : X.A.guards = some []) (hu : X.A.units + 64 < cLine) : CallD X (.builtin "repr") (vReprD X.K) (fun xs S Q => ∃ d p, xs = [d] ∧ PyQ S d p ∧ p.showable = true ∧ p.shown.length ≤ sizeLine ∧ p.depth ≤ 60 ∧ Q (.str p.shown) S) :=
  ⟨call_reprD hsy hg hu, fun H m S xs vs Q Q' R rx q c => by
    obtain ⟨d, p, rfl, h1, h2, h4, h5, q⟩ := q
    cases rx with
    | cons r1 r2 =>
      cases r2
      exact ⟨_, p, rfl, dq_of R p d _ h1 r1, h2, h4, h5, c.same R q (.str _)⟩⟩
theorem xb_reprD (hsy : HasSys X.base) (hg : X.A.guards = some []) (hu : X.A.units + 64 < cLine) : CallD X (.builtin "repr") (vReprD X.K) (toB bReprD) := (cd_reprD hsy hg hu).imp' (by
  rintro xs S Q ⟨p, h, q⟩
  unfold bReprD at h
  split at h
  · split at h
    · rename_i hh
      cases h
      obtain ⟨h1, h2, h4, h5⟩ := hh.choose_spec
      exact ⟨_, _, rfl, h1, h2, h4, h5, q⟩
    · cases h
  · cases h)
end
end DL

set_option Elab.async false
set_option linter.all false
set_option maxRecDepth 100000
set_option maxHeartbeats 1000000
namespace DL
open PySem L2 PyProof.Rows
theorem lawS0 {P : Program} {w : World} {K : PySem.W.Frag} {mg mb : Str → Option Value} {CX : CXT} {k : Nat} {fa a : Addr}
    {fd : FuncData} {x : Str} {sp : Sp} {s₁ : Shared} {vs : List Value} {H : Hp}
    (KX : K.In s₁.heap) (hns : s₁.heap.Ns mainGlobals mg) (hb : s₁.heap.Ns builtinsNs mb)
    (hbb : ∀ x : Str, x ≠ "__name__" → mb x = bootBuiltins x) (hlim : s₁.heap.NoLimit) (hg : s₁.gens = #[])
    (ha : s₁.heap.get? a = some { cls := .type "list", data := .seq vs.toArray }) (hr : Room k callerA)
    (hok : HOk P w H s₁.heap) (Hn : ∀ b, H b ≠ none → b = a ∧ K.lookup a = none ∧ ∃ o u, H a = some (.frz o u))
    (hsys : HasSys s₁.heap) (F : ∀ base : Heap, K.In base → base.Ns mainGlobals mg → HasSys base → FnG P w K mg base CX k fa fd [x] sp)
    (hbind : ∀ (s : Shared) (u : Value), BindsTo s fd ⟨[u], []⟩ [(x, u)])
    (hsp : sp [.ref a] H (fun v _ => v = .bl true) fun _ _ _ => False)
    (hCX : ∀ H e s', CX [] H s₁ (fun _ _ _ => False) e s' → False) :
    codeAny (model P w) callerA (.call (.ref fa) ⟨[.ref a], []⟩)
      (fun r s' => r = .ok (.ret (.bool true)) ∧ OldK s₁.heap s'.heap ∧ s'.os = s₁.os ∧ AllBare s'.gens) s₁ := by
  have no : ∀ b, (b = a → K.lookup a = none → False) → H b = none := fun b z => by
    cases q : H b with
    | none => rfl
    | some u =>
      obtain ⟨e, e2, _⟩ := Hn b (by rw [q]; exact fun z => nomatch z)
      exact (z e e2).elim
  have nsK : ∀ {b : Addr} {m : Str → Option Value}, s₁.heap.Ns b m → (hidT s₁.heap H).Ns b m := by
    rintro b m ⟨o, es, ep, e, d, r⟩
    refine ⟨o, es, ep, hidT_get e (no b (fun z _ => ?_)), d, r⟩
    subst z
    rw [ha] at e
    cases e
    exact nomatch (show Data.seq vs.toArray _ = Data.dict es ep from d)
  have hKb : K.In (hidT s₁.heap H) := fun b o e => hidT_get (KX b o e) (no b (fun z z2 => by rw [z, z2] at e; cases e))
  have hM : Mod K mg (hidT s₁.heap H) := ⟨hKb, nsK hns, ⟨mb, nsK hb, hbb⟩, let ⟨mc, h1, h2⟩ := hlim; ⟨mc, nsK h1, h2⟩⟩
  have e0 : Env0 P w K mg (hidT s₁.heap H) callerA [] s₁ H :=
    ⟨rfl, hM, fun b o e => of_hidT e, Nat.le_of_eq (hidT_size _ _), trivial, fun b hb => (List.not_mem_nil hb).elim, hok, .of_eq hg⟩
  have go := (F _ hKb (nsK hns) (let ⟨m, h⟩ := hsys; ⟨m, nsK h⟩)).run callerA [] s₁ H ⟨[.ref a], []⟩ [.ref a] [.ref a] _ _ rfl hr e0 (hbind s₁ (.ref a)) (.cons rfl .nil) hsp
  refine codeAny_mono go ?_
  intro res s' h
  match res, h with
  | .error e, h => exact (hCX H e s' h).elim
  | .ok .next, h => exact False.elim h
  | .ok .brk, h => exact False.elim h
  | .ok .cont, h => exact False.elim h
  | .ok (.ret u), h =>
    obtain ⟨v, H', os, bare, un, hok', r', q⟩ := h
    obtain rfl : v = .bl true := q
    obtain rfl : u = Value.bool true := r'
    refine ⟨rfl, OldK.of_keep (fun b o e => ?_), os, bare⟩
    by_cases hba : H b = none
    · exact un.keep b o e hba (fun z => List.not_mem_nil z) List.not_mem_nil
    · obtain ⟨rfl, _, ob, u, Ha⟩ := Hn b hba
      obtain ⟨e1, _⟩ := hok b _ Ha
      obtain ⟨e2, _⟩ := hok' b _ (un.frzs b ob _ Ha)
      rw [e] at e1
      cases e1
      exact e2
theorem lawS {P : Program} {w : World} {K : PySem.W.Frag} {mg mb : Str → Option Value} {CX : CXT} {k : Nat} {fa a : Addr}
    {fd : FuncData} {x : Str} {sp : Sp} {s₁ : Shared} {vs : List Value} {ns : List Int}
    (KX : K.In s₁.heap) (hns : s₁.heap.Ns mainGlobals mg) (hb : s₁.heap.Ns builtinsNs mb)
    (hbb : ∀ x : Str, x ≠ "__name__" → mb x = bootBuiltins x) (hlim : s₁.heap.NoLimit) (hg : s₁.gens = #[])
    (ha : s₁.heap.get? a = some { cls := .type "list", data := .seq vs.toArray }) (hi : IntsAre vs ns)
    (hl : ns.length ≤ sizeLine) (hr : Room k callerA)
    (hsys : HasSys s₁.heap) (F : ∀ base : Heap, K.In base → base.Ns mainGlobals mg → HasSys base → FnG P w K mg base CX k fa fd [x] sp)
    (hbind : ∀ (s : Shared) (u : Value), BindsTo s fd ⟨[u], []⟩ [(x, u)])
    (hsp : ∀ (H : Hp), ScrAt K H a (ns.map V.int) → sp [.ref a] H (fun v _ => v = .bl true) fun _ _ _ => False)
    (hCX : ∀ H e s', CX [] H s₁ (fun _ _ _ => False) e s' → False) :
    codeAny (model P w) callerA (.call (.ref fa) ⟨[.ref a], []⟩)
      (fun r s' => r = .ok (.ret (.bool true)) ∧ OldK s₁.heap s'.heap ∧ s'.os = s₁.os ∧ AllBare s'.gens) s₁ := by
  have rv := vals_ints hi
  cases hk : K.lookup a with
  | some o =>
    have e := KX a o hk
    rw [ha] at e
    cases e
    refine lawS0 (H := fun _ => none) KX hns hb hbb hlim hg ha hr (fun b u z => nomatch z) (fun b z => (z rfl).elim) hsys F hbind (hsp _ (.inr ?_)) hCX
    exact ⟨_, vs.toArray, _, hk, rfl, rfl, rfl, by rw [List.size_toArray, hi.length]; exact hl, by simpa using rv⟩
  | none =>
    let ob : Obj := { cls := .type "list", data := .seq vs.toArray }
    let H : Hp := fun b => if b = a then some (.frz ob (.lst (ns.map V.int))) else none
    have Ha : H a = some (.frz ob (.lst (ns.map V.int))) := if_pos rfl
    have Hn : ∀ b, b ≠ a → H b = none := fun b hb => if_neg hb
    refine lawS0 (H := H) KX hns hb hbb hlim hg ha hr (fun b u z => ?_) (fun b z => ?_) hsys F hbind (hsp _ (.inl ⟨_, Ha⟩)) hCX
    · by_cases e : b = a
      · subst e
        rw [Ha] at z
        cases z
        exact ⟨ha, by rw [List.length_map]; exact hl, vs, _, rv, ha⟩
      · rw [Hn b e] at z
        cases z
    · by_cases e : b = a
      · exact ⟨e, hk, _, _, Ha⟩
      · exact (z (Hn b e)).elim
/-- the goal that the head leaves -/
theorem walkS {l : PySem.W.OpenLaw} {n k : Nat} {q : Program} {loose : List Str} {XP : (Str → Option Value) → Heap → Prop} {YP : World → Heap → Prop}
    {d : DefRec} {K : Params → PySem.W.Frag} {CX : World → CXT} {sp : World → Sp} {x : Str}
    (hq : importsNone q = true) (hn : l.most = some n) (hn2 : n ≤ sizeLine) (hdf : d.params.defaults = []) (hr : Room k callerA)
    (hY : ∀ (w : World) (h : Heap), YP w h → (K w.params).In h)
    (F : ∀ (w : World) (mg : Str → Option Value) (fa : Addr) (h : Heap), (K w.params).In h → h.Ns mainGlobals mg → mg d.name = some (.ref fa) →
      ∃ fd : FuncData, (∀ (s : Shared) (u : Value), BindsTo s fd ⟨[u], []⟩ [(x, u)]) ∧
      ∀ base : Heap, (K w.params).In base → base.Ns mainGlobals mg → HasSys base → FnG l.prog w (K w.params) mg base (CX w) k fa fd [x] (sp w))
    (hsp : ∀ (w : World) (H : Hp) (a : Addr) (ns : List Int), ns.length ≤ n → ScrAt (K w.params) H a (ns.map V.int) →
      sp w [.ref a] H (fun v _ => v = .bl true) fun _ _ _ => False)
    (hCX : ∀ (w : World) (H : Hp) (s : Shared) (e : Value) (s' : Shared), CX w [] H s (fun _ _ _ => False) e s' → False) :
    PySem.W.WalkO q loose XP YP l.row.toRowW d [] (fun f vs => PySem.call f vs) := by
  refine Att.attach_call hn hdf ?_
  intro w s₀ s₁ mg mb fa o pm cd doc a vs ns G Y ho hd hcd hmg hobj hints hlen hg
  have KX := hY w _ Y
  obtain ⟨fd, hb, hF⟩ := F w mg fa _ KX G.T.g hmg
  exact lawS KX G.T.g G.T.b G.T.builtins G.T.nolimit hg hobj hints (Nat.le_trans hlen hn2) hr (let ⟨m, h, _⟩ := (G.T.seer hq).mods; ⟨m, h⟩) hF hb
    (fun H hS => hsp w H a ns hlen hS) (fun H e s' => hCX w H s₁ e s')
theorem walkT {l : PySem.W.OpenLaw} {k : Nat} {q : Program} {loose : List Str} {XP : (Str → Option Value) → Heap → Prop} {YP : World → Heap → Prop}
    {d : DefRec} {K : Params → PySem.W.Frag} {x : Str} (hq : importsNone q = true) (hn : l.most = some 63) (hdf : d.params.defaults = []) (hr : Room k callerA) (hY : ∀ (w : World) (h : Heap), YP w h → (K w.params).In h)
    (F : ∀ (w : World) (mg : Str → Option Value) (fa : Addr) (h : Heap), (K w.params).In h → h.Ns mainGlobals mg → mg d.name = some (.ref fa) →
      ∃ fd : FuncData, (∀ (s : Shared) (u : Value), BindsTo s fd ⟨[u], []⟩ [(x, u)]) ∧
      ∀ base : Heap, (K w.params).In base → base.Ns mainGlobals mg → HasSys base → FnG l.prog w (K w.params) mg base CX0 k fa fd [x] (toSp (K w.params) c_law)) :
    PySem.W.WalkO q loose XP YP l.row.toRowW d [] (fun f vs => PySem.call f vs) :=
  walkS (n := 63) (k := k) (x := x) (CX := fun _ => CX0) (sp := fun w => toSp (K w.params) c_law) hq hn (by decide) hdf hr hY F
    (fun w H a ns hl hS => ⟨[], [], [.scr ns], fun d _ => d = .bl true, ⟨rfl, .nil, fun i _ _ e _ => by simp at e⟩, .cons (.scr hS) .nil, ⟨ns, rfl, hl, fun _ => rfl⟩, fun d S' v H' m' e _ _ _ r => by cases e; cases r; rfl⟩) (fun _ _ _ _ _ z => z)
theorem top_mkS {P : Program} {w : World} {K : PySem.W.Frag} {h : Heap} {mg : Str → Option Value} {x y : Str} {st : Stmt} {k : Nat} {f fa : Addr} {oc kV dc pm cd ct : Value} {od an : Option Addr} {sl : Array (Option Value)} (X : K.In h) (G : h.Ns mainGlobals mg) (hfa : mg x = some (.ref fa))
    (hb : ∀ (kV doc pm : Value) (an : Option Addr) (cdv ct u : Value), bindArgs (PySem.W.fnOf x x (defArgs st) (defBody st) (defScope st) Value.none kV doc pm an cdv ct) { pos := [u] } = pure [(y, u)])
    (hF : ∀ (f : Addr) (fd : FuncData), Fun K x x st f fd → ∀ base : Heap, HasSys base → FnG P w K mg base CX0 k f fd [y] (toSp K c_law))
    (a : PySem.W.nsIn K mainGlobals x = some (some (.ref f))) (l : K.lookup f = some ⟨oc, od, .func (PySem.W.fnOf x x (defArgs st) (defBody st) (defScope st) .none kV dc pm an cd ct), sl⟩) (c : PySem.W.codeIn K cd x = true) (kp : PySem.W.keepIn K (.ref f) = true) :
    ∃ fd : FuncData, (∀ (s : Shared) (u : Value), BindsTo s fd ⟨[u], []⟩ [(y, u)]) ∧ ∀ base : Heap, K.In base → base.Ns mainGlobals mg → HasSys base → FnG P w K mg base CX0 k fa fd [y] (toSp K c_law) := by
  have e := hfa.symm.trans (PySem.W.mg_of X G a)
  cases e
  exact ⟨_, fun s u => .of_eq (hb _ _ _ _ _ _ u), fun base _ _ => hF f _ (fun_mk (st := st) l c kp) base⟩

end DL

set_option Elab.async false
set_option linter.all false
set_option maxRecDepth 100000
set_option maxHeartbeats 1000000
namespace DL
open PySem L2 PyProof.Rows
/-! ### dicts that change, stars, truth, three at once -/
def putD (kvs : List (Key × D)) (k : Key) (v : D) : List (Key × D) :=
  if (kvs.any fun kv => decide (kv.1 = k)) = true then kvs.map (fun kv => if kv.1 = k then (kv.1, v) else kv) else kvs ++ [(k, v)]
section
variable {K : PySem.W.Frag} {H : Hp} {m : Mp}
theorem any_keys {α β : Type} {k : Key} : ∀ {a : List (Key × α)} {b : List (Key × β)}, a.map (·.1) = b.map (·.1) → (a.any fun kv => decide (kv.1 = k)) = (b.any fun kv => decide (kv.1 = k))
  | [], [], _ => rfl
  | [], _ :: _, h => by cases h
  | _ :: _, [], h => by cases h
  | x :: r, y :: s, h => by
    have h1 : x.1 = y.1 := (List.cons.inj h).1
    rw [List.any_cons, List.any_cons, h1, any_keys (List.cons.inj h).2]
theorem map_rel {k : Key} {v : V} {d : D} (r : Dv K H m v d) : ∀ {a : List (Key × V)} {b : List (Key × D)}, a.map (·.1) = b.map (·.1) → DvA K H m (a.map (·.2)) (b.map (·.2)) →
    (a.map fun kv => if kv.1 = k then (kv.1, v) else kv).map (·.1) = (b.map fun kv => if kv.1 = k then (kv.1, d) else kv).map (·.1) ∧
    DvA K H m ((a.map fun kv => if kv.1 = k then (kv.1, v) else kv).map (·.2)) ((b.map fun kv => if kv.1 = k then (kv.1, d) else kv).map (·.2))
  | [], [], _, _ => ⟨rfl, .nil⟩
  | [], _ :: _, h, _ => by cases h
  | _ :: _, [], h, _ => by cases h
  | (a, x) :: ra, (b, y) :: rb, h, q => by
    have h1 : a = b := (List.cons.inj h).1
    subst h1
    cases q with
    | cons q1 q2 =>
      obtain ⟨i1, i2⟩ := map_rel (k := k) r (List.cons.inj h).2 q2
      by_cases e : a = k
      · simp only [List.map_cons, if_pos e]
        exact ⟨by rw [i1], .cons r i2⟩
      · simp only [List.map_cons, if_neg e]
        exact ⟨by rw [i1], .cons q1 i2⟩
theorem put_rel {k : Key} {v : V} {d : D} (r : Dv K H m v d) {a : List (Key × V)} {b : List (Key × D)} (h : a.map (·.1) = b.map (·.1)) (q : DvA K H m (a.map (·.2)) (b.map (·.2))) :
    (putK a k v).map (·.1) = (putD b k d).map (·.1) ∧ DvA K H m ((putK a k v).map (·.2)) ((putD b k d).map (·.2)) := by
  unfold putK putD
  rw [any_keys (k := k) h]
  by_cases e : (b.any fun kv => decide (kv.1 = k)) = true
  · rw [if_pos e, if_pos e]
    exact map_rel r h q
  · rw [if_neg e, if_neg e]
    simp only [List.map_append, List.map_cons, List.map_nil]
    exact ⟨by rw [h], q.append (.cons r .nil)⟩
/-- a dict written -/
theorem Rel.setK {S : Sto} (R : Rel K H m S) {i : Nat} {a : Addr} {xs kws : List (Key × V)} {kvs : List (Key × D)} (e : m[i]? = some a) (h : H a = some (.dK xs)) (hk : kws.map (·.1) = kvs.map (·.1)) (r : DvA K H m (kws.map (·.2)) (kvs.map (·.2))) : Rel K (upd H a (.dK kws)) m (S.set i (.dct kvs)) := by
  have k : Kp H (upd H a (.dK kws)) := .putK h
  refine ⟨by rw [List.length_set]; exact R.len, R.nd, fun j b o e' s => ?_⟩
  by_cases hj : j = i
  · subst hj
    rw [e] at e'
    cases e'
    have hl : j < S.length := R.len ▸ (List.getElem?_eq_some_iff.mp e).1
    rw [List.getElem?_set_self hl] at s
    cases s
    exact ⟨kws, upd_same, hk, DvA.mono k (.refl m) _ _ r⟩
  · rw [List.getElem?_set_ne (fun z => hj z.symm)] at s
    have hne : b ≠ a := fun z => hj (by
      subst z
      exact Rel.put.nodup_at R.nd e' e)
    exact (R.ob j b o e' s).mono k (.refl m) (upd_ne hne)
theorem Rel.dct {S : Sto} (R : Rel K H m S) {i : Nat} {v : V} {kvs : List (Key × D)} (d : Dv K H m v (.loc i)) (s : S[i]? = some (.dct kvs)) : ∃ a kws, v = .ref a ∧ m[i]? = some a ∧ H a = some (.dK kws) ∧ kws.map (·.1) = kvs.map (·.1) ∧ DvA K H m (kws.map (·.2)) (kvs.map (·.2)) := by
  cases d with
  | loc e =>
    obtain ⟨vs, h, k, r⟩ := R.ob i _ _ e s
    exact ⟨_, vs, rfl, e, h, k, r⟩
end
/-- dict(d) -/
def bDictOf (xs : List D) (S : Sto) : Option (D × Sto) := match xs with
  | [.loc i] => match S[i]? with
    | some (.dct kvs) => some (.loc S.length, S ++ [.dct kvs])
    | _ => none
  | _ => none
/-- d[k] = v -/
def fsDPut (v d k : FE) (δ : DEnv) (S : Sto) : Option (Fl × Sto) := (v δ S).bind fun p => (d δ p.2).bind fun q => (k δ q.2).bind fun r => match q.1, r.1 with
  | .loc i, .str s => match r.2[i]? with
    | some (.dct kvs) => if kvs.length < 100000 then some (.nx δ, r.2.set i (.dct (putD kvs (.inr s) p.1))) else none
    | _ => none
  | _, _ => none
/-- d[k] -/
def oDGet (x y : D) (S : Sto) : Option (D × Sto) := match x, y with
  | .loc i, .str s => match S[i]? with
    | some (.dct kvs) => (valD kvs (.inr s)).bind fun v => some (v, S)
    | _ => none
  | _, _ => none
/-- whether it counts as true -/
def truD (S : Sto) : D → Option Bool
  | .non => some false
  | .bl b => some b
  | .int i => some (i != 0)
  | .tup ds => some (!ds.isEmpty)
  | .loc i => match S[i]? with
    | some (.lst ds) => some (!ds.isEmpty)
    | some (.dct kvs) => some (!kvs.isEmpty)
    | none => none
  | _ => none
def fTru (f : FE) (δ : DEnv) (S : Sto) : Option (Bool × Sto) := (f δ S).bind fun p => (truD p.2 p.1).bind fun b => some (b, p.2)
/-- *e ahead of others -/
def fStar (f : FE) (g : FA) (δ : DEnv) (S : Sto) : Option (List D × Sto) := (f δ S).bind fun p => match p.1 with
  | .tup ds => (g δ p.2).bind fun q => some (ds ++ q.1, q.2)
  | .loc i => match p.2[i]? with
    | some (.lst ds) => (g δ p.2).bind fun q => some (ds ++ q.1, q.2)
    | _ => none
  | _ => none
def fg3 (g h k : FG) (x : D) (δ : DEnv) (S : Sto) : Option (DEnv × Sto) := match x with
  | .tup [d1, d2, d3] => (g d1 δ S).bind fun p => (h d2 p.1 p.2).bind fun q => k d3 q.1 q.2
  | _ => none
/-- the greatest, the least of ints -/
def maxL : List Int → Int
  | [] => 0
  | a :: r => r.foldl max a
def minL : List Int → Int
  | [] => 0
  | a :: r => r.foldl min a
theorem foldl_max_ge : ∀ (r : List Int) (a : Int), a ≤ r.foldl max a ∧ (∀ y ∈ r, y ≤ r.foldl max a) ∧ (r.foldl max a = a ∨ r.foldl max a ∈ r)
  | [], a => ⟨Int.le_refl _, fun y h => absurd h List.not_mem_nil, .inl rfl⟩
  | x :: r, a => by
    obtain ⟨h1, h2, h3⟩ := foldl_max_ge r (max a x)
    rw [List.foldl_cons]
    refine ⟨Int.le_trans (Int.le_max_left _ _) h1, fun y hy => ?_, ?_⟩
    · rcases List.mem_cons.mp hy with rfl | h
      · exact Int.le_trans (Int.le_max_right _ _) h1
      · exact h2 y h
    · rcases h3 with h | h
      · rcases Int.le_total a x with hx | hx
        · rw [Int.max_eq_right hx] at h ⊢
          exact .inr (by rw [h]; exact List.mem_cons_self)
        · rw [Int.max_eq_left hx] at h ⊢
          exact .inl h
      · exact .inr (List.mem_cons_of_mem _ h)
theorem foldl_min_le : ∀ (r : List Int) (a : Int), r.foldl min a ≤ a ∧ (∀ y ∈ r, r.foldl min a ≤ y) ∧ (r.foldl min a = a ∨ r.foldl min a ∈ r)
  | [], a => ⟨Int.le_refl _, fun y h => absurd h List.not_mem_nil, .inl rfl⟩
  | x :: r, a => by
    obtain ⟨h1, h2, h3⟩ := foldl_min_le r (min a x)
    rw [List.foldl_cons]
    refine ⟨Int.le_trans h1 (Int.min_le_left _ _), fun y hy => ?_, ?_⟩
    · rcases List.mem_cons.mp hy with rfl | h
      · exact Int.le_trans h1 (Int.min_le_right _ _)
      · exact h2 y h
    · rcases h3 with h | h
      · rcases Int.le_total a x with hx | hx
        · rw [Int.min_eq_left hx] at h ⊢
          exact .inl h
        · rw [Int.min_eq_right hx] at h ⊢
          exact .inr (by rw [h]; exact List.mem_cons_self)
      · exact .inr (List.mem_cons_of_mem _ h)
theorem maxL_eq {ns : List Int} {m : Int} (h : m ∈ ns) (hm : ∀ y ∈ ns, y ≤ m) : m = maxL ns := by
  cases ns with
  | nil => cases h
  | cons a r =>
    obtain ⟨h1, h2, h3⟩ := foldl_max_ge r a
    apply Int.le_antisymm
    · rcases List.mem_cons.mp h with rfl | h
      · exact h1
      · exact h2 m h
    · show r.foldl max a ≤ m
      rcases h3 with h3 | h3
      · rw [h3]; exact hm _ List.mem_cons_self
      · exact hm _ (List.mem_cons_of_mem _ h3)
theorem minL_eq {ns : List Int} {m : Int} (h : m ∈ ns) (hm : ∀ y ∈ ns, m ≤ y) : m = minL ns := by
  cases ns with
  | nil => cases h
  | cons a r =>
    obtain ⟨h1, h2, h3⟩ := foldl_min_le r a
    apply Int.le_antisymm
    · show m ≤ r.foldl min a
      rcases h3 with h3 | h3
      · rw [h3]; exact hm _ List.mem_cons_self
      · exact hm _ (List.mem_cons_of_mem _ h3)
    · rcases List.mem_cons.mp h with rfl | h
      · exact h1
      · exact h2 m h
def bMaxL (xs : List D) (S : Sto) : Option (D × Sto) := match xs with
  | [.loc i] => match S[i]? with
    | some (.lst ds) => (asInts ds).bind fun ns => if ns.isEmpty then none else some (.int (maxL ns), S)
    | _ => none
  | _ => none
def bMinL (xs : List D) (S : Sto) : Option (D × Sto) := match xs with
  | [.loc i] => match S[i]? with
    | some (.lst ds) => (asInts ds).bind fun ns => if ns.isEmpty then none else some (.int (minL ns), S)
    | _ => none
  | _ => none
/-- {'a': e, ..}: the dict is laid first, then its values -/
def fDisp (ks : List Str) (u : FA) (δ : DEnv) (S : Sto) : Option (D × Sto) := (u δ (S ++ [.dct []])).bind fun p => if p.1.length = ks.length then match p.2[S.length]? with
    | some (.dct []) => some (.loc S.length, p.2.set S.length (.dct ((ks.map Sum.inr).zip p.1)))
    | _ => none
  else none
open Classical in
/-- tuple times int, also of no items -/
noncomputable def oMulE (x y : D) (S : Sto) : Option (D × Sto) := match x, y with
  | .tup [], .int k => if 0 ≤ k ∧ k ≤ 2000 then some (.tup [], S) else none
  | _, _ => oMul x y S
section
variable {X : Cx} {pos p : Pos} {a b : Expr} {e : Expr} {es : List Expr} {te ta tb : TE} {f g h : FE} {tA : TA} {u : FA}
def vDictOf : List V → Hp → VK → Prop := fun xs H Q => ∃ (a : Addr) (kvs : List (Key × V)), xs = [.ref a] ∧ Rd H a (.dK kvs) ∧ ∀ p, H p = none → Q (.ref p) (upd H p (.dK kvs))
theorem xb_dictOf : CallD X (.type "dict") vDictOf (toB bDictOf) := ⟨call_dictD, fun H m S xs vs Q Q' R rx ⟨p, h, q⟩ c => by
  unfold bDictOf at h
  split at h
  case h_2 => cases h
  rename_i i
  split at h
  case h_2 => cases h
  rename_i kvs hs
  cases h
  cases rx with
  | cons r1 r2 =>
    cases r2
    obtain ⟨a, kws, rfl, em, hH, hk, d⟩ := R.dct r1 hs
    exact ⟨a, kws, rfl, .inl hH, fun p hp => c _ _ _ _ (m ++ [p]) q (.new hp) ⟨[p], rfl⟩ (R.pushK hp hk d) (.loc (by rw [← R.len, List.getElem?_append_right (Nat.le_refl _), Nat.sub_self]; rfl))⟩⟩
theorem xs_dput {o i value : Expr} {td ty tv : TE} {d k v : FE} {pos' : Pos} (hu : X.A.units + 1 < cLine) (ho : PD X o td (toE d)) (hi : PD X i ty (toE k)) (hv : PD X value tv (toE v)) (hs : swapsWith value (some (.Subscript o i pos')) pos.line X.env = pure false := by rfl) :
    PSD X (.Assign [.Subscript o i pos'] value pos) (sDPut td ty tv) (toS (fsDPut v d k)) := ⟨ps_dput hu ho.pe hi.pe hv.pe hs, fun σ H m S δ Z Z' R ev ⟨p, h, q⟩ c => by
  simp only [fsDPut, Option.bind_eq_some_iff] at h
  obtain ⟨p1, h1, p2, h2, p3, h3, h4⟩ := h
  refine hv.sim σ H m S δ _ (fun d S' => (d, S') = p1) R ev ⟨p1, h1, rfl⟩ ?_
  rintro x S1 vx H1 m1 rfl k1 g1 R1 r1
  refine ho.sim σ H1 m1 S1 δ _ (fun d S' => (d, S') = p2) R1 (ev.mono k1 g1) ⟨p2, h2, rfl⟩ ?_
  rintro y S2 vy H2 m2 rfl k2 g2 R2 r2
  refine hi.sim σ H2 m2 S2 δ _ (fun d S' => (d, S') = p3) R2 ((ev.mono k1 g1).mono k2 g2) ⟨p3, h3, rfl⟩ ?_
  rintro z S3 vz H3 m3 rfl k3 g3 R3 r3
  split at h4
  case h_2 => cases h4
  rename_i i s e1 e2
  have e1 : y = .loc i := e1
  have e2 : z = .str s := e2
  subst e1 e2
  split at h4
  case h_2 => cases h4
  rename_i kvs hs
  split at h4
  case isFalse => cases h4
  rename_i hl
  cases h4
  cases r3
  obtain ⟨a, kws, rfl, em, hH, hk, d⟩ := R3.dct (Dv.mono k3 g3 _ _ r2) hs
  have rx := Dv.mono (k2.trans k3) (g2.trans g3) _ _ r1
  obtain ⟨n1, n2⟩ := put_rel (k := Sum.inr s) rx hk d
  have hlen : kws.length = kvs.length := by have := congrArg List.length hk; simpa using this
  refine ⟨a, _, rfl, DPut.k (k := Sum.inr s) hH (small5' (by omega)), ?_⟩
  have kk := (k1.trans k2).trans k3
  have gg := (g1.trans g2).trans g3
  exact c.nx δ _ σ _ m3 q (kk.trans (.putK hH)) gg (R3.setK em hH n1 n2) ((ev.mono kk gg).mono (.putK hH) (.refl m3))⟩
theorem x_dget {o i : Expr} {td ty : TE} {d k : FE} (hu : X.A.units + 1 < cLine) (ho : PD X o td (toE d)) (hi : PD X i ty (toE k)) (hs : NoSl i := by first | exact (fun _ _ => rfl) | rfl) : PD X (.Subscript o i pos) (tDGet td ty) (toE (fOp oDGet d k)) := ⟨pe_dget hu ho.pe hi.pe hs, fun σ H m S δ Q Q' R ev ⟨p, h, q⟩ c => by
  simp only [fOp, Option.bind_eq_some_iff] at h
  obtain ⟨p1, h1, p2, h2, h3⟩ := h
  refine ho.sim σ H m S δ _ (fun d S' => (d, S') = p1) R ev ⟨p1, h1, rfl⟩ ?_
  rintro x S1 vx H1 m1 rfl k1 g1 R1 r1
  refine hi.sim σ H1 m1 S1 δ _ (fun d S' => (d, S') = p2) R1 (ev.mono k1 g1) ⟨p2, h2, rfl⟩ ?_
  rintro y S2 vy H2 m2 rfl k2 g2 R2 r2
  unfold oDGet at h3
  split at h3
  case h_2 => cases h3
  rename_i i s e1 e2
  have e1 : x = .loc i := e1
  have e2 : y = .str s := e2
  subst e1 e2
  split at h3
  case h_2 => cases h3
  rename_i kvs hs
  simp only [Option.bind_eq_some_iff] at h3
  obtain ⟨w, h4, h5⟩ := h3
  cases h5
  cases r2
  obtain ⟨a, kws, rfl, em, hH, hk, dd⟩ := R2.dct (Dv.mono k2 g2 _ _ r1) hs
  rcases val_rel (k := Sum.inr s) hk dd with ⟨e1, e2⟩ | ⟨v, d, e1, e2, d3⟩
  · rw [e2] at h4; cases h4
  · rw [e2] at h4
    cases h4
    refine ⟨a, v, rfl, ?_, (c.mono (k1.trans k2) (g1.trans g2)).same R2 q d3⟩
    rw [← e1]
    exact DGet.k (k := Sum.inr s) hH⟩
def tTru (K : PySem.W.Frag) (ta : TE) : TT := fun σ H Q => ta σ H fun x H' => ∃ k, TruV K x H' k ∧ Q k H'
theorem tru_rel {K : PySem.W.Frag} {H : Hp} {m : Mp} {S : Sto} {d : D} {v : V} {k : Bool} (R : Rel K H m S) (r : Dv K H m v d) (h : truD S d = some k) : TruV K v H k := by
  unfold truD at h
  split at h
  · cases h; cases r; rfl
  · cases h; cases r; rfl
  · cases h; cases r; rfl
  · cases h
    cases r with
    | tup s1 d1 =>
      refine .inr (.inl ⟨_, s1, ?_⟩)
      cases d1 <;> rfl
  · split at h
    · rename_i ds hs
      cases h
      obtain ⟨a, vs, rfl, _, hH, d1⟩ := R.lst r hs
      refine .inl ⟨_, SqL.of hH, ?_⟩
      cases d1 <;> rfl
    · rename_i kvs hs
      cases h
      obtain ⟨a, kws, rfl, _, hH, hk, d1⟩ := R.dct r hs
      refine .inr (.inr ⟨_, hH, ?_⟩)
      cases kws <;> cases kvs <;> first | rfl | cases hk
    · cases h
  · cases h
theorem xt_tru {e : Expr} (h : PD X e ta (toE f)) (he : ∀ whole, isTrue e X.env whole = (do let v ← whole; standAt e.pos; holding [v] (truthy v)) := by intro _; rfl) : PTD X e (tTru X.K ta) (toT (fTru f)) := ⟨pt_truth h.pe he, fun σ H m S δ Q Q' R ev ⟨p, hp, q⟩ c => by
  simp only [fTru, Option.bind_eq_some_iff] at hp
  obtain ⟨p1, h1, b, h2, h3⟩ := hp
  cases h3
  refine h.sim σ H m S δ _ (fun d S' => (d, S') = p1) R ev ⟨p1, h1, rfl⟩ ?_
  rintro x S1 vx H1 m1 rfl k1 g1 R1 r1
  exact ⟨b, tru_rel R1 r1 h2, c b S1 H1 m1 q k1 g1 R1⟩⟩
theorem xa_star {sp : Pos} (h : PD X e te (toE f)) (hr : PAD X es tA (toA u)) (hs : starEach (.Starred e sp :: es) X.env = (true, eval e X.env) :: starEach es X.env := by rfl) : PAD X (.Starred e sp :: es) (StX.tStar X.K te tA) (toA (fStar f u)) := ⟨StX.pa_star h.pe hr.pe hs, fun σ H m S δ Q Q' R ev ⟨p, hp, q⟩ c => by
  simp only [fStar, Option.bind_eq_some_iff] at hp
  obtain ⟨p1, h1, h2⟩ := hp
  refine h.sim σ H m S δ _ (fun d S' => (d, S') = p1) R ev ⟨p1, h1, rfl⟩ ?_
  rintro x S1 vx H1 m1 rfl k1 g1 R1 r1
  split at h2
  · rename_i ds e1
    have e1 : x = .tup ds := e1
    subst e1
    simp only [Option.bind_eq_some_iff] at h2
    obtain ⟨p2, h3, h4⟩ := h2
    cases h4
    cases r1 with
    | tup s1 d1 =>
      refine ⟨_, _, rfl, .inl s1, hr.sim σ H1 m1 S1 δ _ (fun d S' => (d, S') = p2) R1 (ev.mono k1 g1) ⟨p2, h3, rfl⟩ ?_⟩
      rintro y S2 vy H2 m2 rfl k2 g2 R2 r2
      exact c _ _ _ _ m2 q (k1.trans k2) (g1.trans g2) R2 ((DvA.mono k2 g2 _ _ d1).append r2)
  · rename_i i e1
    have e1 : x = .loc i := e1
    subst e1
    split at h2
    case h_2 => cases h2
    rename_i ds hs
    simp only [Option.bind_eq_some_iff] at h2
    obtain ⟨p2, h3, h4⟩ := h2
    cases h4
    obtain ⟨a, vs, rfl, _, hH, d1⟩ := R1.lst r1 hs
    refine ⟨_, _, rfl, .inr (SqL.of hH), hr.sim σ H1 m1 S1 δ _ (fun d S' => (d, S') = p2) R1 (ev.mono k1 g1) ⟨p2, h3, rfl⟩ ?_⟩
    rintro y S2 vy H2 m2 rfl k2 g2 R2 r2
    exact c _ _ _ _ m2 q (k1.trans k2) (g1.trans g2) R2 ((DvA.mono k2 g2 _ _ d1).append r2)
  · cases h2⟩
theorem xg_three {e1 e2 e3 : Expr} {n : Nat} {g h k : TG} {g' h' k' : FG} (hc : X.calm = true) (h1 : PGD X e1 g (toG g')) (h2 : PGD X e2 h (toG h')) (h3 : PGD X e3 k (toG k'))
    (hs1 : (assignEach [e1, e2, e3] X.env).map (·.2) = assign e1 X.env :: (assignEach [e2, e3] X.env).map (·.2) := by rfl) (hs2 : (assignEach [e2, e3] X.env).map (·.2) = assign e2 X.env :: (assignEach [e3] X.env).map (·.2) := by rfl)
    (hs3 : (assignEach [e3] X.env).map (·.2) = assign e3 X.env :: (assignEach [] X.env).map (·.2) := by rfl) (hn : (assignEach [e1, e2, e3] X.env).length = 3 := by rfl) (hst : (assignEach [e1, e2, e3] X.env).findIdx? (·.1) = none := by rfl) :
    PGD X (.Tuple [e1, e2, e3] n pos) (gTup X.K 3 (gCons g (gCons h (gCons k gNil)))) (toG (fg3 g' h' k')) := ⟨pg_tup hc (pgs_cons h1.pe (pgs_cons h2.pe (pgs_cons h3.pe pgs_nil hs3) hs2) hs1) hn hst, fun σ H m S δ x v Q Q' R ev r ⟨p, hp, q⟩ c => by
  unfold fg3 at hp
  split at hp
  case h_2 => cases hp
  simp only [Option.bind_eq_some_iff] at hp
  obtain ⟨p1, e1, p2, e2, e3⟩ := hp
  cases r with
  | tup s r =>
    cases r with
    | cons r1 r2 =>
      cases r2 with
      | cons r2 r3 =>
        cases r3 with
        | cons r3 r4 =>
          cases r4
          refine ⟨_, _, rfl, s, rfl, _, _, rfl, h1.sim σ H m S δ _ _ _ (fun δ S => (δ, S) = p1) R ev r1 ⟨p1, e1, rfl⟩ ?_⟩
          rintro δ1 S1 σ1 H1 m1 rfl k1 g1 R1 v1
          refine ⟨_, _, rfl, h2.sim σ1 H1 m1 S1 δ1 _ _ _ (fun δ S => (δ, S) = p2) R1 v1 (Dv.mono k1 g1 _ _ r2) ⟨p2, e2, rfl⟩ ?_⟩
          rintro δ2 S2 σ2 H2 m2 rfl k2 g2 R2 v2
          refine ⟨_, _, rfl, h3.sim σ2 H2 m2 S2 δ2 _ _ _ (fun δ S => (δ, S) = p) R2 v2 (Dv.mono (k1.trans k2) (g1.trans g2) _ _ r3) ⟨p, e3, rfl⟩ ?_⟩
          rintro δ3 S3 σ3 H3 m3 rfl k3 g3 R3 v3
          exact ⟨rfl, c δ3 S3 σ3 H3 m3 q ((k1.trans k2).trans k3) ((g1.trans g2).trans g3) R3 v3⟩⟩
theorem xb_maxL (hc : X.calm = true) : CallD X (.builtin "max") (rMax X.K) (toB bMaxL) := ⟨cr_max hc, fun H m S xs vs Q Q' R rx ⟨p, h, q⟩ c => by
  unfold bMaxL at h
  split at h
  case h_2 => cases h
  rename_i i
  split at h
  case h_2 => cases h
  rename_i ds hs
  simp only [Option.bind_eq_some_iff] at h
  obtain ⟨ns, h1, h2⟩ := h
  split at h2
  case isTrue => cases h2
  rename_i hne
  cases h2
  cases rx with
  | cons r1 r2 =>
    cases r2
    obtain ⟨a, ws, rfl, em, hH, d⟩ := R.lst r1 hs
    rw [ints_of h1] at d
    have := d.of_ints
    subst this
    refine ⟨a, ns, rfl, SqL.of hH, by cases ns with | nil => exact absurd rfl hne | cons _ _ => exact Nat.zero_lt_succ _, fun m hm hle => ?_⟩
    rw [maxL_eq hm hle]
    exact c.same R q (.int _)⟩
theorem xb_minL (hc : X.calm = true) : CallD X (.builtin "min") (rMin X.K) (toB bMinL) := ⟨cr_min hc, fun H m S xs vs Q Q' R rx ⟨p, h, q⟩ c => by
  unfold bMinL at h
  split at h
  case h_2 => cases h
  rename_i i
  split at h
  case h_2 => cases h
  rename_i ds hs
  simp only [Option.bind_eq_some_iff] at h
  obtain ⟨ns, h1, h2⟩ := h
  split at h2
  case isTrue => cases h2
  rename_i hne
  cases h2
  cases rx with
  | cons r1 r2 =>
    cases r2
    obtain ⟨a, ws, rfl, em, hH, d⟩ := R.lst r1 hs
    rw [ints_of h1] at d
    have := d.of_ints
    subst this
    refine ⟨a, ns, rfl, SqL.of hH, by cases ns with | nil => exact absurd rfl hne | cons _ _ => exact Nat.zero_lt_succ _, fun m hm hle => ?_⟩
    rw [minL_eq hm hle]
    exact c.same R q (.int _)⟩
/-- pairs of a display -/
def zipK (ks : List Str) (vs : List V) : List (Key × V) := (ks.map Sum.inr).zip vs
structure PPD (X : Cx) (pos : Pos) (keys : List (Option Expr)) (values : List Expr) (trs : List (TE × TE)) (ks : List Str) (u : FA) : Prop where
  pe : PPs X pos keys values trs
  len : ∀ δ S q, u δ S = some q → q.1.length = ks.length
  sim : ∀ (σ : L2.St) (H : Hp) (m : Mp) (S : Sto) (δ : DEnv) (Q : List (V × V) → Hp → Prop) (q : List D × Sto), Rel X.K H m S → EnvR X.K H m σ δ → u δ S = some q →
    (∀ vs H' m', Kp H H' → Gr m m' → Rel X.K H' m' q.2 → DvA X.K H' m' vs q.1 → Q ((zipK ks vs).map fun kv => (kV kv.1, kv.2)) H') → tPairs trs σ H Q
theorem xpp_nil : PPD X pos [] [] [] [] fNil := ⟨pps_nil, fun δ S q h => by cases h; rfl, fun σ H m S δ Q q R ev h c => by
  cases h
  exact c [] H m (.refl H) (.refl m) R .nil⟩
theorem xpp_cons {k : Str} {j : Nat} {kp : Pos} {v : Expr} {ks : List (Option Expr)} {vs : List Expr} {tv : TE} {trs : List (TE × TE)} {names : List Str} {fv : FE} (hv : PD X v tv (toE fv)) (hr : PPD X pos ks vs trs names u) :
    PPD X pos (some (.Constant (.str k) j kp) :: ks) (v :: vs) ((tC (.str k), tv) :: trs) (k :: names) (fCons fv u) := ⟨pps_cons pe_str hv.pe hr.pe, fun δ S q h => by
  simp only [fCons, Option.bind_eq_some_iff] at h
  obtain ⟨p1, h1, p2, h2, h3⟩ := h
  cases h3
  simp only [List.length_cons, hr.len _ _ _ h2], fun σ H m S δ Q q R ev h c => by
  simp only [fCons, Option.bind_eq_some_iff] at h
  obtain ⟨p1, h1, p2, h2, h3⟩ := h
  cases h3
  refine hv.sim σ H m S δ _ (fun d S' => (d, S') = p1) R ev ⟨p1, h1, rfl⟩ ?_
  rintro x S1 vx H1 m1 rfl k1 g1 R1 r1
  refine hr.sim σ H1 m1 S1 δ _ p2 R1 (ev.mono k1 g1) h2 ?_
  intro ws H2 m2 k2 g2 R2 r2
  exact c (vx :: ws) H2 m2 (k1.trans k2) (g1.trans g2) R2 (.cons (Dv.mono k2 g2 _ _ r1) r2)⟩
theorem merge_new : ∀ (more acc : List (Key × V)), (acc.map (·.1) ++ more.map (·.1)).Nodup → mergeK acc more = acc ++ more
  | [], acc, _ => by simp [mergeK]
  | (k, v) :: r, acc, h => by
    have hk : (acc.any fun kv => decide (kv.1 = k)) = false := by
      rw [List.any_eq_false]
      intro x hx e
      rw [decide_eq_true_eq] at e
      rw [List.nodup_append] at h
      exact h.2.2 x.1 (List.mem_map_of_mem hx) k (by simp) e
    have e : mergeK acc ((k, v) :: r) = mergeK (acc ++ [(k, v)]) r := by
      show mergeK (putK acc k v) r = _
      unfold putK
      rw [hk]
      rfl
    rw [e, merge_new r (acc ++ [(k, v)]) (by simpa using h), List.append_assoc]
    rfl
theorem zip_fst {α : Type} : ∀ {ks : List Key} {vs : List α}, vs.length = ks.length → (ks.zip vs).map (·.1) = ks
  | [], [], _ => rfl
  | [], _ :: _, h => by cases h
  | _ :: _, [], h => by cases h
  | k :: ks, v :: vs, h => by simp only [List.zip_cons_cons, List.map_cons]; rw [zip_fst (by simpa using h)]
theorem zip_snd {α : Type} : ∀ {ks : List Key} {vs : List α}, vs.length = ks.length → (ks.zip vs).map (·.2) = vs
  | [], [], _ => rfl
  | [], _ :: _, h => by cases h
  | _ :: _, [], h => by cases h
  | k :: ks, v :: vs, h => by simp only [List.zip_cons_cons, List.map_cons]; rw [zip_snd (by simpa using h)]
theorem x_disp {keys : List (Option Expr)} {values : List Expr} {trs : List (TE × TE)} {ks : List Str} (h : PPD X pos keys values trs ks u) (hall : keys.all (·.isSome) = true) (hl : keys.length = values.length) (h0 : keys ≠ []) (h15 : keys.length ≤ 15) (hc : ks.length ≤ 15) (hnd : (ks.map (Sum.inr (α := Int))).Nodup) :
    PD X (.Dict keys values pos) (tDisp trs) (toE (fDisp ks u)) := ⟨pe_disp h.pe hall hl h0 h15, fun σ H m S δ Q Q' R ev ⟨p, hp, q⟩ c a ha => by
  simp only [fDisp, Option.bind_eq_some_iff] at hp
  obtain ⟨p1, h1, h2⟩ := hp
  split at h2
  case isFalse => cases h2
  rename_i hlen
  split at h2
  case h_2 => cases h2
  rename_i hs
  cases h2
  have R1 : Rel X.K (upd H a (.dK [])) (m ++ [a]) (S ++ [.dct []]) := R.pushK (kws := []) (kvs := []) ha rfl .nil
  have g1 : Gr m (m ++ [a]) := ⟨[a], rfl⟩
  have em : (m ++ [a])[S.length]? = some a := by rw [← R.len, List.getElem?_append_right (Nat.le_refl _), Nat.sub_self]; rfl
  refine h.sim σ _ _ _ δ _ p1 R1 (ev.mono (.new ha) g1) h1 ?_
  intro vs H' m' k2 g2 R2 r2
  have em2 := g2.at em
  obtain ⟨kws, hH, hk, _⟩ := R2.ob _ _ _ em2 hs
  have : kws = [] := by cases kws with | nil => rfl | cons _ _ => cases hk
  subst this
  have lv : vs.length = (ks.map (Sum.inr (α := Int))).length := by rw [r2.length, hlen, List.length_map]
  have lp : p1.1.length = (ks.map (Sum.inr (α := Int))).length := by rw [hlen, List.length_map]
  refine ⟨hH, zipK ks vs, rfl, ?_, ?_⟩
  · unfold zipK
    rw [List.length_zip, List.length_map]
    omega
  · have e : mergeK [] (zipK ks vs) = zipK ks vs := by
      rw [merge_new _ _ (by unfold zipK; rw [List.map_nil, List.nil_append, zip_fst lv]; exact hnd)]
      rfl
    rw [e]
    refine c _ _ _ _ m' q (((Kp.new ha).trans k2).trans (.putK hH)) (g1.trans g2) (R2.setK em2 hH ?_ ?_) (.loc em2)
    · unfold zipK
      rw [zip_fst lv, zip_fst lp]
    · unfold zipK
      rw [zip_snd lv, zip_snd lp]
      exact r2⟩
/-- () times anything -/
def rRepE (K : PySem.W.Frag) : R2 := fun x y H Q => ∃ l k, x = .ref l ∧ y = .int k ∧ SqT K H l [] ∧ 0 ≤ k ∧ k ≤ 2000 ∧ Q (.ref l) H
theorem op_repE : OpR X (binaryOp .Mult) (rRepE X.K) := by
  intro pins s σ H x y v u Q I rx ry h
  obtain ⟨l, k, rfl, rfl, hT, h1, h2, q⟩ := h
  cases rx
  obtain ⟨t, rfl⟩ := ry
  obtain ⟨its, r, ⟨⟨cls, dd, data, sl⟩, ho, hc, n, hd⟩, hs⟩ := I.tuple hT
  simp only at hc hd
  subst hc hd
  cases r
  have c0 : (decide (k < -(2 ^ 63)) || decide (k ≥ 2 ^ 63)) = false := by
    rw [decide_eq_false (by omega), decide_eq_false (by omega)] <;> rfl
  refine wpAny_binaryOp_repeat_ref (T := "tuple") (U := "int") (by decide) ⟨_, ho, rfl⟩ (fun s' => typeIs_int s' k t) noFill_tuple_mul F.fills_int_mul
    F.slot_int_rmul repeat_tuple F.slot_int_index.lookup (call_meets F.slot_int_rmul (typeIs_int s k t) F.entry_int_rmul (F.args_int_rmul_2 _ _)
      (int_rmul_tuple k t l ([] : List Value).toArray n dd sl) ⟨ho, rfl, ⟨_, ho, rfl⟩, ?_⟩)
  refine call_meets F.slot_tuple_mul ⟨_, ho, rfl⟩ F.entry_tuple_mul (F.args_tuple_mul_2 _ _) (tuple_mul1 l ([] : List Value).toArray n dd sl k t c0 (by simp)) ⟨ho, ?_⟩
  exact ⟨.ref l, H, I, rfl, q⟩
def vMulE (K : PySem.W.Frag) : R2 := fun x y H Q => rRepE K x y H Q ∨ vMul K x y H Q
theorem xo_mulE : OpD X (binaryOp .Mult) (vMulE X.K) (toR oMulE) := ⟨op_repE.or xo_mul.op, fun H m S x y vx vy Q Q' R rx ry ⟨p, h, q⟩ c => by
  unfold oMulE at h
  split at h
  · split at h
    case isFalse => cases h
    rename_i hh
    cases h
    cases ry
    cases rx with
    | tup s1 d1 =>
      cases d1
      exact .inl ⟨_, _, rfl, rfl, s1, hh.1, hh.2, c.same R q (.tup s1 .nil)⟩
  · exact .inr (xo_mul.sim H m S _ _ vx vy Q Q' R rx ry ⟨p, h, q⟩ c)⟩
end
end DL

set_option Elab.async false
set_option linter.all false
set_option maxRecDepth 100000
set_option maxHeartbeats 1000000
namespace DL
open PySem L2 PyProof.Rows
/-! ### t[::-1] of a tuple -/
section
variable {prog : Program} {w : World} {A : Around} {E : Value → Shared → Prop} {s : Shared}
theorem adjust_rev (n : Nat) : Builtin.Slice.sliceAdjust none none (-1) (n : Int) = ((n : Int) - 1, -1) := by
  unfold Builtin.Slice.sliceAdjust
  simp
theorem places_rev (n : Nat) : Builtin.Slice.slicePlaces ((n : Int) - 1) (-1) (-1) = n := by
  unfold Builtin.Slice.slicePlaces
  have h1 : ¬ ((-1 : Int) > 0) := by omega
  simp only [h1, if_false]
  cases n with
  | zero => simp
  | succ n =>
    rw [if_pos (by omega)]
    have e : (-(-1) : Int) = 1 := rfl
    rw [e, Int.ediv_one]
    omega
theorem fm_congr {α : Type} {f g : Nat → Option α} : ∀ l : List Nat, (∀ k ∈ l, f k = g k) → l.filterMap f = l.filterMap g
  | [], _ => rfl
  | k :: l, h => by
    rw [List.filterMap_cons, List.filterMap_cons, h k List.mem_cons_self, fm_congr l fun x hx => h x (List.mem_cons_of_mem _ hx)]
theorem fm_all {α : Type} : ∀ l : List α, (List.range l.length).filterMap (fun k => l[k]?) = l
  | [] => rfl
  | a :: l => by
    rw [List.length_cons, List.range_succ_eq_map, List.filterMap_cons, List.filterMap_map]
    show a :: (List.range l.length).filterMap (fun k => (a :: l)[k + 1]?) = a :: l
    congr 1
    exact fm_all l
theorem pick_rev (xs : Array Value) : ((List.range xs.size).filterMap fun (k : Nat) => xs[(((xs.size : Int) - 1) + (k : Int) * (-1)).toNat]?).toArray = xs.toList.reverse.toArray := by
  congr 1
  have e : (List.range xs.size).filterMap (fun (k : Nat) => xs[(((xs.size : Int) - 1) + (k : Int) * (-1)).toNat]?) = (List.range xs.size).filterMap (fun k => xs.toList.reverse[k]?) := by
    apply fm_congr
    intro k hk
    have hk : k < xs.size := List.mem_range.mp hk
    have e1 : (((xs.size : Int) - 1) + (k : Int) * (-1)).toNat = xs.size - 1 - k := by omega
    rw [e1, List.getElem?_reverse (by simpa using hk)]
    simp
  rw [e]
  have hl : xs.size = xs.toList.reverse.length := by simp
  rw [hl, fm_all]
theorem sliceApplied_rev {sl : Addr} {vl vu vs : Value} {n : Nat} {Q : Int × Int × Nat → Shared → Prop} (hs : s.heap.IsSliceOf sl vl vu vs) (pl : IsPart vl none) (pu : IsPart vu none) (ps : IsPart vs (some (-1)))
    (h : Q ((n : Int) - 1, -1, n) s) : wpAny (model prog w) A (Builtin.Slice.sliceApplied (.ref sl) (pure (n : Int))) Q E s := by
  obtain ⟨os, hos, hcs, hds⟩ := id hs
  unfold Builtin.Slice.sliceApplied Builtin.Slice.sliceFields
  refine wpAny_bind (wpAny_bind (wpAny_field hos hds (x := vl) rfl (wpAny_bind (wpAny_field hos hds (x := vu) rfl (wpAny_bind (wpAny_field hos hds (x := vs) rfl (wpAny_pure ?_)))))))
  refine wpAny_bind (HT.slicePart_ ps ?_)
  show wpAny _ _ (if ((-1 : Int) == 0) = true then _ else _) _ _ s
  rw [if_neg (by decide)]
  refine wpAny_bind (HT.slicePart_ pl (wpAny_bind (HT.slicePart_ pu (wpAny_bind (wpAny_pure ?_)))))
  show wpAny _ _ (match Builtin.Slice.sliceAdjust none none (-1) (n : Int) with | (lo, hi) => pure (lo, (-1 : Int), Builtin.Slice.slicePlaces lo hi (-1))) _ _ s
  rw [adjust_rev n]
  show wpAny _ _ (pure ((n : Int) - 1, (-1 : Int), Builtin.Slice.slicePlaces ((n : Int) - 1) (-1) (-1))) _ _ s
  rw [places_rev]
  exact wpAny_pure h
theorem getItem_tuple_rev {t sl : Addr} {items : Array Value} {vl vu vs : Value} {Q : Value → Shared → Prop} (ht : IsTup s.heap t items) (hs : s.heap.IsSliceOf sl vl vu vs) (pl : IsPart vl none) (pu : IsPart vu none) (ps : IsPart vs (some (-1)))
    (h : Q (.ref s.heap.objs.size) { s with heap := s.heap.push { cls := .type "tuple", data := .seq items.toList.reverse.toArray } })
    (hsz : items.size ≤ sizeLine) : wpAny (model prog w) A (getItem (.ref t) (.ref sl)) Q E s := by
  have htake : sizeOk (.seq items.toList.reverse.toArray) := by
    show items.toList.reverse.toArray.size ≤ sizeLine
    rw [List.size_toArray, List.length_reverse, Array.length_toList]
    omega
  obtain ⟨os, hos, hcs, hds⟩ := id hs
  have hTs : s.TypeIs (.ref sl) "slice" := ⟨os, hos, hcs⟩
  unfold getItem
  try with_reducible refine wpAny_holding ?_
  first | refine wpAny_bind (wpAny_pure ?_) | skip
  refine wpAny_bind (wpAny_sequenceKey ht.typeIs (by decide) ?_)
  refine wpAny_bind (wpAny_callSpecial?_slot (name := Str.ofString "__getitem__") ht.typeIs PyProof.Rows.slot_tuple_getitem
    (wpAny_call_entry PyProof.Rows.slot_tuple_getitem ht.typeIs entry_tuple_getitem ?_ (args_tuple_getitem _ _)))
  show wpAny _ _ (Builtin.Tuple.tupleItemsOf (.ref t) >>= _) _ _ s
  refine wpAny_bind (tupleItemsOf_ ht ?_)
  refine wpAny_bind (wpAny_typeOf hTs ?_)
  rw [if_pos (by decide)]
  refine wpAny_bind (sliceApplied_rev hs pl pu ps ?_)
  have hno : ¬ ((((items.size : Int) - 1) == 0 && (-1 : Int) == 1 && items.size == items.size) = true) := by simp
  show wpAny _ _ (if (((items.size : Int) - 1) == 0 && (-1 : Int) == 1 && items.size == items.size) = true then _ else _) _ _ s
  rw [if_neg hno, pick_rev]
  first
    | exact wpAny_bind (m := Builtin.Tuple.tupleExact _) (wpAny_newObj_type (wpAny_pure ⟨_, rfl, wpAny_pure h⟩) htake)
    | exact wpAny_bind (m := Builtin.Tuple.tupleExact _) (wpAny_newObj_type (wpAny_bind (wpAny_pure (wpAny_pure ⟨_, rfl, wpAny_pure h⟩))) htake)
    | exact wpAny_bind (wpAny_bind (m := Builtin.Tuple.tupleExact _) (wpAny_newObj_type (wpAny_pure (wpAny_pure ⟨_, rfl, wpAny_pure h⟩)) htake))
    | exact wpAny_bind (wpAny_bind (m := Builtin.Tuple.tupleExact _) (wpAny_newObj_type (wpAny_pure ⟨_, rfl, wpAny_pure h⟩) htake))
end
section
variable {X : Cx} {pos p : Pos} {a b : Expr} {e : Expr} {es : List Expr} {te ta tb : TE} {f g h : FE} {tA : TA} {u : FA}
def tRevT (K : PySem.W.Frag) (te : TE) : TE := fun σ H Q => te σ H fun x H1 => ∃ a xs, x = .ref a ∧ SqT K H1 a xs ∧ ∀ p, H1 p = none → Q (.ref p) (upd H1 p (.tup xs.reverse))
theorem pe_revT {k : Nat} {p1 p2 p3 : Pos} (he : PE X e te) : PE X (.Subscript e (.Slice none none (some (.UnaryOp .USub (.Constant (.int 1) k p1) p2)) p3) pos) (tRevT X.K te) := by
  refine ⟨fun pins s σ H Q I h => ?_⟩
  refine Subscript_ (thn (he.run pins s σ H _ I h) fun v s1 ⟨x, H1, I1, r1, q1⟩ => ?_)
  obtain ⟨a, xs, ex, hx, q⟩ := q1
  subst ex
  cases r1
  have hst : PO X (some (.UnaryOp .USub (.Constant (.int 1) k p1) p2)) (tPart (tUn (rU fun i => .int (-i)) (tC (.int 1)))) := po_some (pe_un un_neg pe_int)
  refine wpAny_Slice (thn (po_none.run pins s1 σ H1 (fun o H2 => o = none ∧ H2 = H1) I1 ⟨rfl, rfl⟩) fun vl s2 ⟨l, H2, I2, pl, el, e2⟩ => ?_)
  subst el e2
  refine thn (po_none.run pins s2 σ H2 (fun o H3 => o = none ∧ H3 = H2) I2 ⟨rfl, rfl⟩) fun vu s3 ⟨u, H3, I3, pu, eu, e3⟩ => ?_
  subst eu e3
  refine thn (hst.run pins s3 σ H3 (fun o H4 => o = some (-1) ∧ H4 = H3) I3 ⟨1, rfl, -1, rfl, rfl, rfl⟩) fun vs s4 ⟨o, H4, I4, ps, eo, e4⟩ => ?_
  subst eo e4
  have I5 : Inv X pins σ H4 { s4 with heap := s4.heap.push { cls := .type "slice", data := .fields #[vl, vu, vs] } } := I4.kept (t' := s4.toks) fun b ob q => Heap.get?_push_of_some _ q
  obtain ⟨its, r, ht, hz⟩ := I5.tuple hx
  have hlen := r.length
  show wpAny (model X.prog X.w) X.A (subscriptTail e (.Slice none none (some (.UnaryOp .USub (.Constant (.int 1) k p1) p2)) p3) (.ref a) (.ref s4.heap.objs.size)) (EP X pins σ Q) X.xe { s4 with heap := s4.heap.push { cls := .type "slice", data := .fields #[vl, vu, vs] } }
  refine tail_any (ops := [.ref a, .ref s4.heap.objs.size]) ht.typeIs (PyProof.Rows.slot_tuple_getitem.lookup) ?_ (by with_unfolding_all rfl)
  refine getItem_tuple_rev ht (Heap.IsSliceOf.new _ vl vu vs) pl pu ps ?_ (by rw [List.size_toArray]; omega)
  refine ⟨.ref _, _, I5.laid (t' := s4.toks) (o := .tup xs.reverse) (fun b ob q => Heap.get?_push_of_some _ q) (Nat.le_refl _) ?_, rfl, q _ (I5.hok.fresh (Nat.le_refl _))⟩
  exact ⟨by rw [List.length_reverse]; exact hz, _, r.reverse, IsTup.new _ _⟩
def fRevT (f : FE) (δ : DEnv) (S : Sto) : Option (D × Sto) := (f δ S).bind fun p => match p.1 with
  | .tup ds => some (.tup ds.reverse, p.2)
  | _ => none
theorem x_revT {k : Nat} {p1 p2 p3 : Pos} (h : PD X a ta (toE f)) : PD X (.Subscript a (.Slice none none (some (.UnaryOp .USub (.Constant (.int 1) k p1) p2)) p3) pos) (tRevT X.K ta) (toE (fRevT f)) := ⟨pe_revT h.pe, fun σ H m S δ Q Q' R ev ⟨p, hp, q⟩ c => by
  simp only [fRevT, Option.bind_eq_some_iff] at hp
  obtain ⟨p1, h1, h2⟩ := hp
  refine h.sim σ H m S δ _ (fun d S' => (d, S') = p1) R ev ⟨p1, h1, rfl⟩ ?_
  rintro x S1 vx H1 m1 rfl k1 g1 R1 r1
  split at h2
  case h_2 => cases h2
  rename_i ds e1
  have e1 : x = .tup ds := e1
  subst e1
  cases h2
  cases r1 with
  | tup s1 d1 => exact ⟨_, _, rfl, s1, (c.mono k1 g1).newT R1 d1.reverse q⟩⟩
/-! ### lists of texts compared -/
def oEqS (f : Bool → Bool) (x y : D) (S : Sto) : Option (D × Sto) := match x, y with
  | .loc i, .loc j => match S[i]?, S[j]? with
    | some (.lst a), some (.lst b) => (asStrs a).bind fun ys => (asStrs b).bind fun zs => some (.bl (f (decide (ys = zs))), S)
    | _, _ => none
  | _, _ => none
theorem strs_at {ys : List Str} : ∀ {its : List Value}, Vals (ys.map V.str) its → ∀ j (h : j < its.length) (h2 : j < ys.length), ∃ t, its[j] = Value.str ys[j] t := by
  induction ys with
  | nil => intro its r j h h2; exact absurd h2 (Nat.not_lt_zero j)
  | cons y ys ih =>
    intro its r j h h2
    cases r with
    | cons r1 r2 =>
      obtain ⟨t, rfl⟩ := r1
      cases j with
      | zero => exact ⟨t, rfl⟩
      | succ j => exact ih r2 j (by simpa using h) (by simpa using h2)
theorem all_eq {ys zs : List Str} (h : ys.length = zs.length) : (List.range ys.length).all (fun j => ys.getD j "" == zs.getD j "") = decide (ys = zs) := by
  by_cases e : ys = zs
  · subst e
    rw [decide_eq_true rfl, List.all_eq_true]
    intro j _
    exact beq_self_eq_true _
  · rw [decide_eq_false e, List.all_eq_false]
    by_cases hh : ∃ x, x ∈ List.range ys.length ∧ ¬ (ys.getD x "" == zs.getD x "") = true
    · exact hh
    · exfalso
      apply e
      apply List.ext_getElem h
      intro j h1 h2
      have hj : (ys.getD j "" == zs.getD j "") = true := by
        by_cases q : (ys.getD j "" == zs.getD j "") = true
        · exact q
        · exact absurd ⟨j, List.mem_range.mpr h1, q⟩ hh
      have := eq_of_beq hj
      simpa [List.getD, h1, h2] using this
def rStrs (K : PySem.W.Frag) (f : Bool → Bool) : R2 := fun x y H Q => ∃ a b, ∃ ys zs : List Str, x = .ref a ∧ y = .ref b ∧ SqL K H a (ys.map V.str) ∧ SqL K H b (zs.map V.str) ∧ Q (.bl (f (decide (ys = zs)))) H
theorem strs_pre {ys zs : List Str} {its its2 : List Value} (r : Vals (ys.map V.str) its) (r2 : Vals (zs.map V.str) its2) {A : Around} {s : Shared} (j : Nat) (h1 : j < its.toArray.size) (h2 : j < its2.toArray.size) : SeqAt.EqAt A s its.toArray[j] its2.toArray[j] (ys.getD j "" == zs.getD j "") := by
  have l1 : its.length = ys.length := by rw [← r.length, List.length_map]
  have l2 : its2.length = zs.length := by rw [← r2.length, List.length_map]
  have h1' : j < its.length := by simpa using h1
  have h2' : j < its2.length := by simpa using h2
  obtain ⟨t, e1⟩ := strs_at r j h1' (by omega)
  obtain ⟨t2, e2⟩ := strs_at r2 j h2' (by omega)
  have e3 : ys.getD j "" = ys[j]'(by omega) := by simp [List.getD, show j < ys.length by omega]
  have e4 : zs.getD j "" = zs[j]'(by omega) := by simp [List.getD, show j < zs.length by omega]
  simp only [List.getElem_toArray]
  rw [e1, e2, e3, e4]
  exact SeqAt.EqAt.str_str _ t _ t2
theorem op_eqStrs (hu : X.A.units + 64 < cLine) : OpR X (compareOp .Eq) (rStrs X.K id) := by
  intro pins s σ H x y v u Q I rx ry h
  obtain ⟨a, b, ys, zs, rfl, rfl, h1, h2, q⟩ := h
  cases rx
  cases ry
  obtain ⟨its, r, p, _⟩ := I.list h1
  obtain ⟨its2, r2, p2, _⟩ := I.list h2
  have l1 : its.length = ys.length := by rw [← r.length, List.length_map]
  have l2 : its2.length = zs.length := by rw [← r2.length, List.length_map]
  by_cases e : ys.length = zs.length
  · refine SeqAt.eq_listAt (e := fun j => ys.getD j "" == zs.getD j "") p.isList p2.isList (by simp; omega) (by omega) (fun j g1 g2 => strs_pre r r2 j g1 g2) ?_
    rw [List.size_toArray, l1, all_eq e]
    exact ⟨.bl _, H, I, rfl, q⟩
  · refine SeqAt.eq_list_lengthsAt p.isList p2.isList (by simp; omega) (by omega) ?_
    have : decide (ys = zs) = false := decide_eq_false fun z => e (by rw [z])
    rw [this] at q
    exact ⟨.bl _, H, I, rfl, q⟩
theorem op_neStrs (hu : X.A.units + 64 < cLine) : OpR X (compareOp .NotEq) (rStrs X.K not) := by
  intro pins s σ H x y v u Q I rx ry h
  obtain ⟨a, b, ys, zs, rfl, rfl, h1, h2, q⟩ := h
  cases rx
  cases ry
  obtain ⟨its, r, p, _⟩ := I.list h1
  obtain ⟨its2, r2, p2, _⟩ := I.list h2
  have l1 : its.length = ys.length := by rw [← r.length, List.length_map]
  have l2 : its2.length = zs.length := by rw [← r2.length, List.length_map]
  by_cases e : ys.length = zs.length
  · refine SeqAt.RcNeAt.lists (e := fun j => ys.getD j "" == zs.getD j "") p.isList p2.isList (by simp; omega) (by omega) (fun j g1 g2 => strs_pre r r2 j g1 g2) _ _ _ _ ?_
    rw [List.size_toArray, l1, all_eq e]
    exact ⟨.bl _, H, I, rfl, q⟩
  · refine SeqAt.RcNeAt.lists_lengths p.isList p2.isList (by simp; omega) (by omega) _ _ _ _ ?_
    have : decide (ys = zs) = false := decide_eq_false fun z => e (by rw [z])
    rw [this] at q
    exact ⟨.bl _, H, I, rfl, q⟩
theorem eqS_sim {g : Bool → Bool} (H : Hp) (m : Mp) (S : Sto) (x y : D) (vx vy : V) (Q : VK) (Q' : DK) (R : Rel X.K H m S) (rx : Dv X.K H m vx x) (ry : Dv X.K H m vy y) (h : toR (oEqS g) x y S Q') (c : Cont X.K H m Q' Q) : rStrs X.K g vx vy H Q := by
  obtain ⟨p, h, q⟩ := h
  unfold oEqS at h
  split at h
  case h_2 => cases h
  rename_i i j
  split at h
  case h_2 => cases h
  rename_i a b ha hb
  simp only [Option.bind_eq_some_iff] at h
  obtain ⟨ys, h1, zs, h2, h3⟩ := h
  cases h3
  obtain ⟨p1, vs1, rfl, _, hH1, d1⟩ := R.lst rx ha
  obtain ⟨p2, vs2, rfl, _, hH2, d2⟩ := R.lst ry hb
  have e1 := strs_vs d1 h1
  have e2 := strs_vs d2 h2
  subst e1 e2
  exact ⟨_, _, ys, zs, rfl, rfl, SqL.of hH1, SqL.of hH2, c.same R q (.bl _)⟩
theorem xo_eqS (hu : X.A.units + 64 < cLine) : OpD X (compareOp .Eq) (rStrs X.K id) (toR (oEqS id)) := ⟨op_eqStrs hu, eqS_sim⟩
theorem xo_neS (hu : X.A.units + 64 < cLine) : OpD X (compareOp .NotEq) (rStrs X.K not) (toR (oEqS not)) := ⟨op_neStrs hu, eqS_sim⟩
end
/-! ### worked out by simp -/
def revTK : Option (D × Sto) → Option (D × Sto)
  | some (.tup ds, S) => some (.tup ds.reverse, S)
  | _ => none
@[simp] theorem revTK_1 {S : Sto} {ds : List D} : revTK (some (.tup ds, S)) = some (.tup ds.reverse, S) := rfl
@[simp] theorem revTK_2 : revTK none = none := rfl
@[simp] theorem fRevT_ev {f : FE} {δ : DEnv} {S : Sto} : fRevT f δ S = revTK (f δ S) := by
  unfold fRevT
  cases f δ S with
  | none => rfl
  | some p => obtain ⟨x, S1⟩ := p; cases x <;> rfl
def dputK3 (δ : DEnv) (v o : D) : Option (D × Sto) → Option (Fl × Sto)
  | some (k, S) => match o, k with
    | .loc i, .str s => match S[i]? with
      | some (.dct kvs) => if kvs.length < 100000 then some (.nx δ, S.set i (.dct (putD kvs (.inr s) v))) else none
      | _ => none
    | _, _ => none
  | none => none
@[simp] theorem dputK3_1 {δ : DEnv} {v : D} {i : Nat} {s : Str} {S : Sto} : dputK3 δ v (.loc i) (some (.str s, S)) = (match S[i]? with
      | some (.dct kvs) => if kvs.length < 100000 then some (.nx δ, S.set i (.dct (putD kvs (.inr s) v))) else none
      | _ => none) := rfl
@[simp] theorem dputK3_2 {δ : DEnv} {v o : D} : dputK3 δ v o none = none := rfl
def dputK2 (k : FE) (δ : DEnv) (v : D) : Option (D × Sto) → Option (Fl × Sto)
  | some (o, S) => dputK3 δ v o (k δ S)
  | none => none
@[simp] theorem dputK2_1 {k : FE} {δ : DEnv} {v o : D} {S : Sto} : dputK2 k δ v (some (o, S)) = dputK3 δ v o (k δ S) := rfl
@[simp] theorem dputK2_2 {k : FE} {δ : DEnv} {v : D} : dputK2 k δ v none = none := rfl
def dputK (d k : FE) (δ : DEnv) : Option (D × Sto) → Option (Fl × Sto)
  | some (v, S) => dputK2 k δ v (d δ S)
  | none => none
@[simp] theorem dputK_1 {d k : FE} {δ : DEnv} {v : D} {S : Sto} : dputK d k δ (some (v, S)) = dputK2 k δ v (d δ S) := rfl
@[simp] theorem dputK_2 {d k : FE} {δ : DEnv} : dputK d k δ none = none := rfl
@[simp] theorem fsDPut_ev {v d k : FE} {δ : DEnv} {S : Sto} : fsDPut v d k δ S = dputK d k δ (v δ S) := by
  unfold fsDPut
  cases v δ S with
  | none => rfl
  | some p =>
    obtain ⟨x, S1⟩ := p
    show (d δ S1).bind _ = dputK2 k δ x (d δ S1)
    cases d δ S1 with
    | none => rfl
    | some p =>
      obtain ⟨o, S2⟩ := p
      show (k δ S2).bind _ = dputK3 δ x o (k δ S2)
      cases k δ S2 with
      | none => rfl
      | some p => obtain ⟨z, S3⟩ := p; rfl
@[simp] theorem oDGet_1 {i : Nat} {s : Str} {S : Sto} : oDGet (.loc i) (.str s) S = (match S[i]? with
    | some (.dct kvs) => (valD kvs (.inr s)).map fun v => (v, S)
    | _ => none) := by
  unfold oDGet
  simp only
  cases S[i]? with
  | none => rfl
  | some o =>
    cases o with
    | lst ds => rfl
    | dct kvs => show (valD kvs (.inr s)).bind _ = (valD kvs (.inr s)).map _; cases valD kvs (.inr s) <;> rfl
def truK : Option (D × Sto) → Option (Bool × Sto)
  | some (d, S) => (truD S d).map fun b => (b, S)
  | none => none
@[simp] theorem truK_1 {d : D} {S : Sto} : truK (some (d, S)) = (truD S d).map fun b => (b, S) := rfl
@[simp] theorem truK_2 : truK none = none := rfl
@[simp] theorem fTru_ev {f : FE} {δ : DEnv} {S : Sto} : fTru f δ S = truK (f δ S) := by
  unfold fTru
  cases f δ S with
  | none => rfl
  | some p => obtain ⟨x, S1⟩ := p; show (truD S1 x).bind _ = _; cases h : truD S1 x <;> simp [h]
@[simp] theorem truD_tup {S : Sto} {ds : List D} : truD S (.tup ds) = some (!ds.isEmpty) := rfl
def starK2 (ds : List D) : Option (List D × Sto) → Option (List D × Sto)
  | some (es, S) => some (ds ++ es, S)
  | none => none
@[simp] theorem starK2_1 {ds es : List D} {S : Sto} : starK2 ds (some (es, S)) = some (ds ++ es, S) := rfl
@[simp] theorem starK2_2 {ds : List D} : starK2 ds none = none := rfl
def starK (g : FA) (δ : DEnv) : Option (D × Sto) → Option (List D × Sto)
  | some (.tup ds, S) => starK2 ds (g δ S)
  | some (.loc i, S) => match S[i]? with
    | some (.lst ds) => starK2 ds (g δ S)
    | _ => none
  | _ => none
@[simp] theorem starK_1 {g : FA} {δ : DEnv} {ds : List D} {S : Sto} : starK g δ (some (.tup ds, S)) = starK2 ds (g δ S) := rfl
@[simp] theorem starK_2 {g : FA} {δ : DEnv} {i : Nat} {S : Sto} : starK g δ (some (.loc i, S)) = (match S[i]? with
    | some (.lst ds) => starK2 ds (g δ S)
    | _ => none) := rfl
@[simp] theorem starK_3 {g : FA} {δ : DEnv} : starK g δ none = none := rfl
@[simp] theorem fStar_ev {f : FE} {g : FA} {δ : DEnv} {S : Sto} : fStar f g δ S = starK g δ (f δ S) := by
  unfold fStar
  cases f δ S with
  | none => rfl
  | some p =>
    obtain ⟨x, S1⟩ := p
    cases x with
    | tup ds => show (g δ S1).bind _ = starK2 ds (g δ S1); cases g δ S1 <;> rfl
    | loc i =>
      show (match S1[i]? with | some (.lst ds) => _ | _ => none) = starK g δ (some (.loc i, S1))
      rw [starK_2]
      split
      · cases g δ S1 <;> rfl
      · rfl
    | _ => rfl
@[simp] theorem fg3_ev {g h k : FG} {d1 d2 d3 : D} {δ : DEnv} {S : Sto} : fg3 g h k (.tup [d1, d2, d3]) δ S = g2K k d3 (g2K h d2 (g d1 δ S)) := by
  unfold fg3
  show (g d1 δ S).bind _ = _
  cases g d1 δ S with
  | none => rfl
  | some p => obtain ⟨δ1, S1⟩ := p; show (h d2 δ1 S1).bind _ = g2K k d3 (h d2 δ1 S1); cases h d2 δ1 S1 <;> rfl
def dispK (ks : List Str) (l : Nat) : Option (List D × Sto) → Option (D × Sto)
  | some (ds, S) => if ds.length = ks.length then match S[l]? with
    | some (.dct []) => some (.loc l, S.set l (.dct ((ks.map Sum.inr).zip ds)))
    | _ => none
    else none
  | none => none
@[simp] theorem dispK_1 {ks : List Str} {l : Nat} {ds : List D} {S : Sto} : dispK ks l (some (ds, S)) = if ds.length = ks.length then match S[l]? with
    | some (.dct []) => some (.loc l, S.set l (.dct ((ks.map Sum.inr).zip ds)))
    | _ => none
    else none := rfl
@[simp] theorem dispK_2 {ks : List Str} {l : Nat} : dispK ks l none = none := rfl
@[simp] theorem fDisp_ev {ks : List Str} {u : FA} {δ : DEnv} {S : Sto} : fDisp ks u δ S = dispK ks S.length (u δ (S ++ [.dct []])) := by
  unfold fDisp
  cases u δ (S ++ [.dct []]) <;> rfl
@[simp] theorem bDictOf_1 {i : Nat} {S : Sto} : bDictOf [.loc i] S = (match S[i]? with
    | some (.dct kvs) => some (.loc S.length, S ++ [.dct kvs])
    | _ => none) := rfl
@[simp] theorem bMaxL_1 {i : Nat} {S : Sto} : bMaxL [.loc i] S = (match S[i]? with
    | some (.lst ds) => (asInts ds).bind fun ns => if ns.isEmpty then none else some (.int (maxL ns), S)
    | _ => none) := rfl
@[simp] theorem bMinL_1 {i : Nat} {S : Sto} : bMinL [.loc i] S = (match S[i]? with
    | some (.lst ds) => (asInts ds).bind fun ns => if ns.isEmpty then none else some (.int (minL ns), S)
    | _ => none) := rfl
theorem oMulE_tup {a : List D} {k : Int} {S : Sto} (h0 : 0 ≤ k) (h1 : k ≤ 2000) (h2 : a.length ≤ 40) : oMulE (.tup a) (.int k) S = some (.tup (List.replicate k.toNat a).flatten, S) := by
  cases a with
  | nil =>
    have : (List.replicate k.toNat ([] : List D)).flatten = [] := by
      generalize k.toNat = n
      induction n with
      | zero => rfl
      | succ n ih => rw [List.replicate_succ, List.flatten_cons, ih]; rfl
    rw [this]
    unfold oMulE
    simp [h0, h1]
  | cons x r =>
    unfold oMulE oMul
    simp only
    rw [if_pos ⟨by simp, h0, h1, h2⟩]
end DL

set_option Elab.async false
set_option linter.all false
set_option maxRecDepth 100000
set_option maxHeartbeats 4000000
namespace PG
open PySem L2 DL PyProof.Rows
/-! _law_deck -/
noncomputable def b__law_deck : FS :=
    (fsRet (fLst (fCons (fLc (fiAny (fSl (fVar 0) fNoPart (fPart (fC (.int 63))))) 1 fYes (fCB bAbs (fCons (fVar 1) fNil))) (fCons (fC (.int 0)) fNil))))
/-! _law_draw -/
noncomputable def b__law_draw : FS :=
    (fsSeq (fsAsg (fOp oAdd (fOp oIx (fVar 0) (fC (.int 1))) (fC (.int 1))) (fgSub (fVar 0) (fC (.int 1))))
    (fsSeq (fsAsg (fTup (fCons (fC (.int 0)) (fCons (fNeg (fC (.int 1))) fNil))) (fg2 (fgName 2) (fgName 3)))
    (fsSeq (fsIf (fTest (fOp (oI0 fun i j => .bl (decide (j < i))) (fCB bLen (fCons (fOp oIx (fVar 0) (fC (.int 0))) fNil)) (fC (.int 0)))) (fsSeq (fsAsg (fOp (oI (fun _ j => 0 < j) fun i j => .int (i % j)) (fCB bInt (fCons (fOp oIx (fVar 0) (fC (.int 1))) fNil)) (fCB bLen (fCons (fOp oIx (fVar 0) (fC (.int 0))) fNil))) (fgName 3))
    (fsAsg (fOp oIx (fOp oIx (fVar 0) (fC (.int 0))) (fVar 3)) (fgName 2))) fsNext)
    (fsSeq (fsIf (fTest (fOp (oI0 fun i j => .bl (decide (j ≤ i))) (fVar 2) (fOp (oI CPow fun i j => .int (i ^ j.toNat)) (fC (.int 10)) (fC (.int 18))))) (fsSeq (fsAsg (fOp (oI CDiv fun i j => .int (i / j)) (fCB bInt (fCons (fVar 2) fNil)) (fVar 1)) (fgSub (fOp oIx (fVar 0) (fC (.int 0))) (fVar 3)))
    (fsRet (fOp (oI (fun _ j => 0 < j) fun i j => .int (i % j)) (fCB bInt (fCons (fVar 2) fNil)) (fVar 1)))) fsNext)
    (fsSeq (fsAsg (fOp oAdd (fOp oAdd (fOp (oI (fun _ j => 0 < j) fun i j => .int (i % j)) (fCB bInt (fCons (fVar 2) fNil)) (fC (.int 2147483563))) (fOp oMul (fC (.int 8117)) (fOp oIx (fVar 0) (fC (.int 1))))) (fC (.int 3))) (fgName 4))
    (fsRet (fOp (oI (fun _ j => 0 < j) fun i j => .int (i % j)) (fCB bInt (fCons (fOp (oI (fun _ j => 0 < j) fun i j => .int (i % j)) (fCB bInt (fCons (fOp (oI CPow fun i j => .int (i ^ j.toNat)) (fVar 4) (fC (.int 5))) fNil)) (fC (.int 2147483629))) fNil)) (fVar 1))))))))
/-! _law_one -/
noncomputable def b__law_one (c0 : Fn) : FS :=
    (fsRet (fOp oIx (fVar 1) (fCall c0 (fCons (fVar 0) (fCons (fCB bLen (fCons (fVar 1) fNil)) fNil)))))
/-! _law_names -/
noncomputable def b__law_names (c0 c1 : Fn) : FS :=
    (fsSeq (fsAsg (fC (.str "abcdefghijklmnopqrstuvwxyz")) (fgName 1))
    (fsSeq (fsAsg (fOp oAdd (fVar 1) (fC (.str "0123456789"))) (fgName 2))
    (fsSeq (fsAsg (fLst (fCons (fC (.str "turns")) (fCons (fC (.str "items")) (fCons (fC (.str "total")) (fCons (fC (.str "plus")) (fCons (fC (.str "less")) (fCons (fC (.str "times")) (fCons (fC (.str "minus")) (fCons (fC (.str "worth")) (fCons (fC (.str "hands")) (fCons (fC (.str "rows")) (fCons (fC (.str "none")) (fCons (fC (.str "place")) fNil))))))))))))) (fgName 3))
    (fsSeq (fsPar 4 5 (fCons (fCall c0 (fCons (fVar 0) (fCons (fC (.int 60)) fNil))) (fCons (fCall c1 (fCons (fVar 0) (fCons (fLst (fCons (fC (.int 0)) (fCons (fC (.int 1)) (fCons (fC (.int 2)) (fCons (fC (.int 3)) (fCons (fC (.int 5)) (fCons (fC (.int 6)) (fCons (fC (.int 7)) fNil)))))))) fNil))) fNil)))
    (fsSeq (fsIf (fTest (fOp (oI0 fun i j => .bl (decide (i < j))) (fVar 4) (fC (.int 10)))) (fsRet (fOp oAdd (fLst (fCons (fC (.str "n")) fNil)) (fSl (fVar 3) (fPart (fVar 4)) (fPart (fOp oAdd (fVar 4) (fC (.int 3))))))) fsNext)
    (fsSeq (fsAsg (fJoin (fC (.str "")) (fLc (fiRng1 (fCons (fVar 5) fNil)) 8 fYes (fCall c1 (fCons (fVar 0) (fCons (fVar 1) fNil))))) (fgName 6))
    (fsSeq (fsAsg (fJoin (fC (.str "")) (fLc (fiRng1 (fCons (fCall c0 (fCons (fVar 0) (fCons (fOp (oI0 fun i j => .int (i - j)) (fC (.int 8)) (fVar 5)) fNil))) fNil)) 8 fYes (fCall c1 (fCons (fVar 0) (fCons (fVar 2) fNil))))) (fgName 7))
    (fsRet (fOp oAdd (fLst (fCons (fC (.str "n")) fNil)) (fLc (fiRng1 (fCons (fC (.int 3)) fNil)) 8 fYes (fOp oAdd (fOp oAdd (fVar 6) (fOp oIx (fC (.str "qxz")) (fVar 8))) (fVar 7))))))))))))
/-! _law_expression -/
noncomputable def b__law_expression (c0 c1 c2 : Fn) : FS :=
    (fsSeq (fsAsg (fIfE (fTest (fOp (oI0 fun i j => .bl (decide (j < i))) (fVar 2) (fC (.int 1)))) (fCall c2 (fCons (fVar 0) (fCons (fC (.int 7)) fNil))) (fCall c2 (fCons (fVar 0) (fCons (fC (.int 4)) fNil)))) (fgName 3))
    (fsSeq (fsIf (fTest (fOp (oEq id) (fVar 3) (fC (.int 0)))) (fsRet (fCall c1 (fCons (fVar 0) (fCons (fLst (fCons (fC (.int 0)) (fCons (fC (.int 1)) (fCons (fC (.int 2)) (fCons (fNeg (fC (.int 1))) (fCons (fC (.int 3)) (fCons (fNeg (fC (.int 5))) (fCons (fC (.int 99)) (fCons (fNeg (fC (.int 99))) (fCons (fOp (oI0 fun i j => .int (i - j)) (fCall c2 (fCons (fVar 0) (fCons (fC (.int 199)) fNil))) (fC (.int 99))) fNil)))))))))) fNil)))) fsNext)
    (fsSeq (fsIf (fTest (fOp (oI0 fun i j => .bl (decide (i < j))) (fVar 3) (fC (.int 4)))) (fsRet (fCall c1 (fCons (fVar 0) (fCons (fVar 1) fNil)))) fsNext)
    (fsSeq (fsIf (fTest (fOp (oEq id) (fVar 3) (fC (.int 6)))) (fsSeq (fsAsg (fCall c1 (fCons (fVar 0) (fCons (fLst (fCons (fNeg (fC (.int 9))) (fCons (fNeg (fC (.int 4))) (fCons (fNeg (fC (.int 3))) (fCons (fNeg (fC (.int 2))) (fCons (fNeg (fC (.int 1))) (fCons (fC (.int 0)) (fCons (fC (.int 2)) (fCons (fC (.int 3)) (fCons (fC (.int 9)) fNil)))))))))) fNil))) (fgName 4))
    (fsRet (fTup (fCons (fC (.str "times")) (fCons (fVar 4) (fCons (fCall c0 (fCons (fVar 0) (fCons (fVar 1) (fCons (fOp (oI0 fun i j => .int (i - j)) (fVar 2) (fC (.int 1))) fNil)))) fNil)))))) fsNext)
    (fsSeq (fsAsg (fCall c0 (fCons (fVar 0) (fCons (fVar 1) (fCons (fOp (oI0 fun i j => .int (i - j)) (fVar 2) (fC (.int 1))) fNil)))) (fgName 5))
    (fsRet (fTup (fCons (fOp oIx (fLst (fCons (fC (.str "plus")) (fCons (fC (.str "minus")) fNil))) (fOp (oI (fun _ j => 0 < j) fun i j => .int (i % j)) (fCB bInt (fCons (fVar 3) fNil)) (fC (.int 2)))) (fCons (fVar 5) (fCons (fCall c0 (fCons (fVar 0) (fCons (fVar 1) (fCons (fOp (oI0 fun i j => .int (i - j)) (fVar 2) (fC (.int 1))) fNil)))) fNil))))))))))
/-! _law_test -/
noncomputable def b__law_test (c0 c1 c2 : Fn) : FS :=
    (fsSeq (fsPar 4 5 (fCons (fOp (oI0 fun i j => .int (i - j)) (fCall c0 (fCons (fVar 0) (fCons (fC (.int 5)) fNil))) (fC (.int 2))) (fCons (fTup fNil) fNil)))
    (fsSeq (fsIf (fAnd (fTest (fOp (oEq id) (fCall c0 (fCons (fVar 0) (fCons (fC (.int 2)) fNil))) (fC (.int 0)))) (fTest (fOp (oI0 fun i j => .bl (decide (j ≤ i))) (fOp oIx (fVar 2) (fC (.int 3))) (fVar 3)))) (fsSeq (fsAsg (fOp (oI0 fun i j => .int (i - j)) (fOp oIx (fVar 2) (fC (.int 3))) (fVar 3)) (fgSub (fVar 2) (fC (.int 3))))
    (fsSeq (fsAsg (fOp oAdd (fC (.int 2)) (fCall c0 (fCons (fVar 0) (fCons (fC (.int 5)) fNil)))) (fgName 6))
    (fsAsg (fTup (fCons (fC (.str "rest")) (fCons (fCall c1 (fCons (fVar 0) (fCons (fVar 1) (fCons (fC (.int 3)) fNil)))) (fCons (fVar 6) (fCons (fCall c0 (fCons (fVar 0) (fCons (fVar 6) fNil))) fNil))))) (fgName 5)))) (fsIf (fTest (fOp (oI0 fun i j => .bl (decide (j ≤ i))) (fOp oIx (fVar 2) (fC (.int 4))) (fVar 3))) (fsSeq (fsAsg (fOp (oI0 fun i j => .int (i - j)) (fOp oIx (fVar 2) (fC (.int 4))) (fVar 3)) (fgSub (fVar 2) (fC (.int 4))))
    (fsSeq (fsAsg (fCall c1 (fCons (fVar 0) (fCons (fVar 1) (fCons (fC (.int 3)) fNil)))) (fgName 7))
    (fsAsg (fTup (fCons (fC (.str "less")) (fCons (fVar 7) (fCons (fCall c2 (fCons (fVar 0) (fCons (fLst (fCons (fOp (oI0 fun i j => .int (i - j)) (fCall c0 (fCons (fVar 0) (fCons (fC (.int 41)) fNil))) (fC (.int 20))) (fCons (fCall c1 (fCons (fVar 0) (fCons (fVar 1) (fCons (fC (.int 3)) fNil)))) fNil))) fNil))) fNil)))) (fgName 5)))) fsNext))
    (fsSeq (fsFor (fiRng1 (fCons (fIfE (fTest (fOp (oEq not) (fVar 5) (fTup fNil))) (fCB bMax (fCons (fC (.int 0)) (fCons (fVar 4) fNil))) (fC (.int 0))) fNil)) (fgName 8) (fsAsg (fTup (fCons (fC (.str "not")) (fCons (fVar 5) fNil))) (fgName 5)))
    (fsRet (fVar 5)))))
/-! _law_plain -/
noncomputable def b__law_plain (c0 c1 c2 : Fn) : FS :=
    (fsSeq (fsPar 2 3 (fCons (fCall c1 (fCons (fVar 0) (fCons (fC (.int 12)) fNil))) (fCons (fCall c2 (fCons (fVar 0) (fCons (fVar 1) fNil))) fNil)))
    (fsSeq (fsIf (fTest (fOp (oI0 fun i j => .bl (decide (i < j))) (fVar 2) (fC (.int 4)))) (fsRet (fTup (fCons (fC (.str "set")) (fCons (fVar 3) (fCons (fCall c0 (fCons (fVar 0) (fCons (fVar 1) (fCons (fC (.int 3)) fNil)))) fNil))))) fsNext)
    (fsSeq (fsIf (fTest (fOp (oEq id) (fVar 2) (fC (.int 4)))) (fsRet (fTup (fCons (fC (.str "set")) (fCons (fVar 3) (fCons (fVar 3) fNil))))) fsNext)
    (fsSeq (fsIf (fAnd (fTest (fOp (oEq id) (fVar 2) (fC (.int 5)))) (fTest (fOp (oEq id) (fCall c1 (fCons (fVar 0) (fCons (fC (.int 2)) fNil))) (fC (.int 0))))) (fsRet (fTup (fCons (fC (.str "stop")) fNil))) fsNext)
    (fsRet (fTup (fCons (fC (.str "pay")) (fCons (fCall c0 (fCons (fVar 0) (fCons (fVar 1) (fCons (fC (.int 3)) fNil)))) fNil))))))))
/-! _law_row -/
noncomputable def b__law_row (c0 c1 c2 c3 c4 : Fn) : FS :=
    (fsSeq (fsIf (fOr (fTest (fOp (oI0 fun i j => .bl (decide (i < j))) (fOp oIx (fVar 2) (fC (.int 0))) (fC (.int 1)))) (fTest (fOp (oI0 fun i j => .bl (decide (i < j))) (fOp oIx (fVar 2) (fC (.int 1))) (fVar 3)))) (fsRet (fTup fNil)) fsNext)
    (fsSeq (fsAsg (fTup (fCons (fOp (oI0 fun i j => .int (i - j)) (fOp oIx (fVar 2) (fC (.int 0))) (fC (.int 1))) (fCons (fOp (oI0 fun i j => .int (i - j)) (fOp oIx (fVar 2) (fC (.int 1))) (fVar 3)) fNil))) (fg2 (fgSub (fVar 2) (fC (.int 0))) (fgSub (fVar 2) (fC (.int 1)))))
    (fsSeq (fsAsg (fCall c4 (fCons (fVar 0) (fCons (fC (.int 9)) fNil))) (fgName 5))
    (fsSeq (fsAsg (fIfE (fTest (fOp (oEq id) (fVar 5) (fC (.int 0)))) (fCall c3 (fCons (fVar 0) (fCons (fVar 1) (fCons (fVar 2) (fCons (fVar 3) fNil))))) (fTup fNil)) (fgName 6))
    (fsSeq (fsIf (fTest (fOp (oEq not) (fVar 6) (fTup fNil))) (fsSeq (fsAsg (fCall c2 (fCons (fVar 0) (fCons (fVar 1) (fCons (fVar 2) (fCons (fVar 3) (fCons (fOp oAdd (fVar 4) (fC (.int 1))) fNil)))))) (fgName 7))
    (fsRet (fTup (fCons (fC (.str "if")) (fCons (fVar 6) (fCons (fVar 7) (fCons (fCall c2 (fCons (fVar 0) (fCons (fVar 1) (fCons (fVar 2) (fCons (fVar 3) (fCons (fOp oAdd (fVar 4) (fC (.int 1))) fNil)))))) fNil))))))) fsNext)
    (fsSeq (fsIf (fTest (fOp (oEq id) (fVar 5) (fC (.int 1)))) (fsSeq (fsAsg (fCall c1 (fCons (fVar 0) (fCons (fLst (fCons (fC (.int 1)) (fCons (fC (.int 1)) (fCons (fC (.int 2)) (fCons (fC (.int 2)) (fCons (fC (.int 3)) (fCons (fC (.int 4)) (fCons (fC (.int 8)) fNil)))))))) fNil))) (fgName 8))
    (fsRet (fTup (fCons (fC (.str "repeat")) (fCons (fVar 8) (fCons (fCall c2 (fCons (fVar 0) (fCons (fVar 1) (fCons (fVar 2) (fCons (fOp oMul (fVar 3) (fVar 8)) (fCons (fOp oAdd (fVar 4) (fC (.int 1))) fNil)))))) fNil)))))) fsNext)
    (fsSeq (fsIf (fAnd (fTest (fOp (oI0 fun i j => .bl (decide (i < j))) (fVar 5) (fC (.int 6)))) (fTest (fOp (oI0 fun i j => .bl (decide (j ≤ i))) (fOp oIx (fVar 2) (fC (.int 2))) (fVar 3)))) (fsSeq (fsAsg (fOp (oI0 fun i j => .int (i - j)) (fOp oIx (fVar 2) (fC (.int 2))) (fVar 3)) (fgSub (fVar 2) (fC (.int 2))))
    (fsSeq (fsAsg (fCall c2 (fCons (fVar 0) (fCons (fVar 1) (fCons (fVar 2) (fCons (fVar 3) (fCons (fOp oAdd (fVar 4) (fC (.int 1))) fNil)))))) (fgName 9))
    (fsRet (fTup (fCons (fCall c1 (fCons (fVar 0) (fCons (fLst (fCons (fC (.str "we")) (fCons (fC (.str "they")) fNil))) fNil))) (fCons (fVar 9) (fCons (fCall c2 (fCons (fVar 0) (fCons (fVar 1) (fCons (fVar 2) (fCons (fVar 3) (fCons (fOp oAdd (fVar 4) (fC (.int 1))) fNil)))))) fNil))))))) fsNext)
    (fsRet (fCall c0 (fCons (fVar 0) (fCons (fVar 1) fNil)))))))))))
/-! _law_block -/
noncomputable def b__law_block (c0 c1 : Fn) : FS :=
    (fsSeq (fsIf (fTest (fOp (oI0 fun i j => .bl (decide (j < i))) (fVar 4) (fC (.int 3)))) (fsRet (fTup fNil)) fsNext)
    (fsSeq (fsPar 5 6 (fCons (fOp oAdd (fCall c1 (fCons (fVar 0) (fCons (fC (.int 4)) fNil))) (fCB bInt (fCons (fOp (oEq id) (fVar 4) (fC (.int 0))) fNil))) (fCons (fLst fNil) fNil)))
    (fsSeq (fsFor (fiRng1 (fCons (fVar 5) fNil)) (fgName 7) (fsDrop (fApp (fVar 6) (fCall c0 (fCons (fVar 0) (fCons (fVar 1) (fCons (fVar 2) (fCons (fVar 3) (fCons (fVar 4) fNil)))))))))
    (fsRet (fCB bTupleOf (fCons (fLc (fiAny (fVar 6)) 8 (fTest (fOp (oEq not) (fVar 8) (fTup fNil))) (fVar 8)) fNil))))))
/-! _law_program -/
noncomputable def b__law_program (c0 c1 c2 : Fn) : FS :=
    (fsSeq (fsPar 2 3 (fCons (fLst (fCons (fC (.int 24)) (fCons (fC (.int 30)) (fCons (fC (.int 4)) (fCons (fC (.int 2)) (fCons (fC (.int 2)) fNil)))))) (fCons (fTup fNil) fNil)))
    (fsSeq (fsFor (fiRng1 (fCons (fOp oAdd (fC (.int 1)) (fCall c1 (fCons (fVar 0) (fCons (fC (.int 4)) fNil)))) fNil)) (fgName 4) (fsAsg (fOp oAdd (fVar 3) (fCall c2 (fCons (fVar 0) (fCons (fVar 1) (fCons (fVar 2) (fCons (fC (.int 1)) (fCons (fC (.int 0)) fNil))))))) (fgName 3)))
    (fsSeq (fsIf (fOr (fTest (fOp (oI0 fun i j => .bl (decide (i < j))) (fOp oIx (fVar 2) (fC (.int 0))) (fC (.int 1)))) (fOr (fTest (fOp (oI0 fun i j => .bl (decide (i < j))) (fOp oIx (fVar 2) (fC (.int 1))) (fC (.int 1)))) (fTest (fOp (oEq id) (fCall c1 (fCons (fVar 0) (fCons (fC (.int 4)) fNil))) (fC (.int 0)))))) (fsRet (fVar 3)) fsNext)
    (fsRet (fOp oAdd (fVar 3) (fTup (fCons (fTup (fCons (fC (.str "pay")) (fCons (fCall c0 (fCons (fVar 0) (fCons (fVar 1) (fCons (fC (.int 2)) fNil)))) fNil))) fNil)))))))
end PG

set_option Elab.async false
set_option linter.all false
set_option maxRecDepth 100000
set_option maxHeartbeats 1000000
namespace PG
open PySem L2 DL
/-! ### the deck -/
structure Dk (S : Sto) (i j : Nat) (n : Int) : Prop where
  ne : i ≠ j
  deck : S[i]? = some (.lst [.loc j, .int n])
  cells : ∃ cs : List Int, S[j]? = some (.lst (cs.map D.int)) ∧ (∀ c ∈ cs, 0 ≤ c) ∧ cs.length ≤ 63
  pos : 0 ≤ n
/-- all but the deck stays -/
structure Ch (i j : Nat) (S S' : Sto) : Prop where
  len : S.length ≤ S'.length
  at_ : ∀ (l : Nat) (o : Ob), l ≠ i → l ≠ j → S[l]? = some o → S'[l]? = some o
theorem Ch.refl (i j : Nat) (S : Sto) : Ch i j S S := ⟨Nat.le_refl _, fun _ _ _ _ h => h⟩
theorem Ch.trans {i j : Nat} {S S1 S2 : Sto} (a : Ch i j S S1) (b : Ch i j S1 S2) : Ch i j S S2 := ⟨Nat.le_trans a.len b.len, fun l o h1 h2 h => b.at_ l o h1 h2 (a.at_ l o h1 h2 h)⟩
theorem Ch.ext {i j : Nat} {S S1 : Sto} (e : Ext S S1) : Ch i j S S1 := ⟨e.len, fun l o _ _ h => e.at h⟩
theorem Ch.app {i j : Nat} (S z : Sto) : Ch i j S (S ++ z) := .ext ⟨z, rfl⟩
theorem Ch.set {i j : Nat} {S : Sto} {l : Nat} {o : Ob} (h : l = i ∨ l = j) : Ch i j S (S.set l o) := ⟨by rw [List.length_set]; exact Nat.le_refl _, fun m o' h1 h2 h' => by
  rw [List.getElem?_set_ne (fun z => by subst z; rcases h with h | h; exact h1 h; exact h2 h)]
  exact h'⟩
theorem Dk.ext {S S1 : Sto} {i j : Nat} {n : Int} (d : Dk S i j n) (e : Ext S S1) : Dk S1 i j n := ⟨d.ne, e.at d.deck, let ⟨cs, h, r⟩ := d.cells; ⟨cs, e.at h, r⟩, d.pos⟩
theorem Dk.app {S : Sto} {i j : Nat} {n : Int} (d : Dk S i j n) (z : Sto) : Dk (S ++ z) i j n := d.ext ⟨z, rfl⟩
theorem Dk.upd {S : Sto} {i j : Nat} {n : Int} (d : Dk S i j n) : Dk (S.set i (.lst [.loc j, .int (n + 1)])) i j (n + 1) := by
  have hl : i < S.length := (List.getElem?_eq_some_iff.mp d.deck).1
  obtain ⟨cs, h, r⟩ := d.cells
  exact ⟨d.ne, by rw [List.getElem?_set_self hl], ⟨cs, by rw [List.getElem?_set_ne d.ne]; exact h, r⟩, by have := d.pos; omega⟩
theorem Dk.cell {S : Sto} {i j : Nat} {n : Int} (d : Dk S i j n) {cs : List Int} (h : S[j]? = some (.lst (cs.map D.int))) (ds : List Int) (hp : ∀ c ∈ ds, 0 ≤ c) (hl : ds.length ≤ 63) : Dk (S.set j (.lst (ds.map D.int))) i j n := by
  have hjl : j < S.length := (List.getElem?_eq_some_iff.mp h).1
  exact ⟨d.ne, by rw [List.getElem?_set_ne (fun z => d.ne z.symm)]; exact d.deck, ⟨ds, by rw [List.getElem?_set_self hjl], hp, hl⟩, d.pos⟩
theorem Dk.il {S : Sto} {i j : Nat} {n : Int} (d : Dk S i j n) : i < S.length := (List.getElem?_eq_some_iff.mp d.deck).1
theorem Dk.jl {S : Sto} {i j : Nat} {n : Int} (d : Dk S i j n) : j < S.length := let ⟨_, h, _⟩ := d.cells; (List.getElem?_eq_some_iff.mp h).1
noncomputable def f_draw : Fn := fDef 2 5 b__law_draw
theorem atI_mod {α : Type} {l : List α} {k : Int} (h0 : 0 ≤ k) (h1 : k < l.length) : ∃ m, m < l.length ∧ k = (m : Int) ∧ ∃ v, l[m]? = some v ∧ atI l k = some v ∧ v ∈ l := by
  obtain ⟨m, rfl⟩ := Int.eq_ofNat_of_zero_le h0
  have hm : m < l.length := by omega
  exact ⟨m, hm, rfl, l[m], List.getElem?_eq_getElem hm, atI_nat (List.getElem?_eq_getElem hm), List.getElem_mem hm⟩
noncomputable abbrev drawT2 : FS := (fsSeq (fsIf (fTest (fOp (oI0 fun i j => .bl (decide (j ≤ i))) (fVar 2) (fOp (oI CPow fun i j => .int (i ^ j.toNat)) (fC (.int 10)) (fC (.int 18))))) (fsSeq (fsAsg (fOp (oI CDiv fun i j => .int (i / j)) (fCB bInt (fCons (fVar 2) fNil)) (fVar 1)) (fgSub (fOp oIx (fVar 0) (fC (.int 0))) (fVar 3)))
    (fsRet (fOp (oI (fun _ j => 0 < j) fun i j => .int (i % j)) (fCB bInt (fCons (fVar 2) fNil)) (fVar 1)))) fsNext)
    (fsSeq (fsAsg (fOp oAdd (fOp oAdd (fOp (oI (fun _ j => 0 < j) fun i j => .int (i % j)) (fCB bInt (fCons (fVar 2) fNil)) (fC (.int 2147483563))) (fOp oMul (fC (.int 8117)) (fOp oIx (fVar 0) (fC (.int 1))))) (fC (.int 3))) (fgName 4))
    (fsRet (fOp (oI (fun _ j => 0 < j) fun i j => .int (i % j)) (fCB bInt (fCons (fOp (oI (fun _ j => 0 < j) fun i j => .int (i % j)) (fCB bInt (fCons (fOp (oI CPow fun i j => .int (i ^ j.toNat)) (fVar 4) (fC (.int 5))) fNil)) (fC (.int 2147483629))) fNil)) (fVar 1)))))
theorem draw_tail {S : Sto} {i j : Nat} {n many cell at_ : Int} {cs : List Int} (hd : Dk S i j n) (hn : n ≤ 1000000000000) (hm : 0 < many) (hm2 : many ≤ 1000000000) (hc : S[j]? = some (.lst (cs.map D.int))) (hcp : ∀ c ∈ cs, 0 ≤ c) (hcl : cs.length ≤ 63)
    (ha : 1000000000000000000 ≤ cell → ∃ m : Nat, m < cs.length ∧ at_ = (m : Int)) :
    ∃ k S', retF (drawT2 [some (.loc i), some (.int many), some (.int cell), some (.int at_), none] S) = some (.int k, S') ∧ 0 ≤ k ∧ k < many ∧ Dk S' i j n ∧ Ch i j S S' ∧ S'.length = S.length := by
  have g1 := hd.deck
  have hp := hd.pos
  have p1 : oI CPow (fun i j => D.int (i ^ j.toNat)) (.int 10) (.int 18) S = some (.int 1000000000000000000, S) := oI_int (g := fun i j => D.int (i ^ j.toNat)) ⟨by decide, by decide, by decide⟩
  by_cases hb : 1000000000000000000 ≤ cell
  · obtain ⟨m, hm', rfl⟩ := ha hb
    have p2 : oI CDiv (fun i j => D.int (i / j)) (.int cell) (.int many) S = some (.int (cell / many), S) := oI_int (g := fun i j => D.int (i / j)) ⟨hm, by omega⟩
    have hx : ixN cs.length (m : Int) = some m := by
      unfold ixN
      rw [if_pos (by omega), if_pos (by omega)]
      simp
    refine ⟨cell % many, S.set j (.lst ((cs.map D.int).set m (.int (cell / many)))), by simp [drawT2, p1, hb, p2, g1, hc, hx, hm], Int.emod_nonneg _ (by omega), Int.emod_lt_of_pos _ hm, ?_, .set (.inr rfl), List.length_set ..⟩
    rw [show (cs.map D.int).set m (.int (cell / many)) = (cs.set m (cell / many)).map D.int by rw [List.map_set]]
    refine hd.cell hc _ (fun c hc' => ?_) (by rw [List.length_set]; exact hcl)
    rcases List.mem_or_eq_of_mem_set hc' with h | h
    · exact hcp c h
    · rw [h]
      exact Int.ediv_nonneg (by omega) (by omega)
  · have c0 := Int.emod_nonneg cell (show (2147483563 : Int) ≠ 0 by decide)
    have c1 := Int.emod_lt_of_pos cell (show (0 : Int) < 2147483563 by decide)
    have p3 : oMul (.int 8117) (.int n) S = some (.int (8117 * n), S) := oMul_int (.inl ⟨by decide, by decide⟩)
    have p4 : oI CPow (fun i j => D.int (i ^ j.toNat)) (.int (cell % 2147483563 + 8117 * n + 3)) (.int 5) S = some (.int ((cell % 2147483563 + 8117 * n + 3) ^ (5 : Int).toNat), S) := oI_int (g := fun i j => D.int (i ^ j.toNat)) ⟨by decide, by decide, by omega⟩
    exact ⟨_, S, by simp [drawT2, p1, hb, g1, p3, p4, hm]; rfl, Int.emod_nonneg _ (by omega), Int.emod_lt_of_pos _ hm, hd, .refl _ _ _, rfl⟩
theorem draw_ok {S : Sto} {i j : Nat} {n many : Int} (hd : Dk S i j n) (hn : n < 1000000000000) (hm : 0 < many) (hm2 : many ≤ 1000000000) :
    ∃ k S', f_draw [.loc i, .int many] S = some (.int k, S') ∧ 0 ≤ k ∧ k < many ∧ Dk S' i j (n + 1) ∧ Ch i j S S' ∧ S'.length = S.length := by
  obtain ⟨cs, hc, hcp, hcl⟩ := hd.cells
  have d1 := hd.upd
  have hc1 : (S.set i (.lst [.loc j, .int (n + 1)]))[j]? = some (.lst (cs.map D.int)) := by rw [List.getElem?_set_ne hd.ne]; exact hc
  have g1 := hd.deck
  have g2 := d1.deck
  have hne := hd.ne
  have il := hd.il
  have fin : ∀ k S', 0 ≤ k ∧ k < many ∧ Dk S' i j (n + 1) ∧ Ch i j (S.set i (.lst [.loc j, .int (n + 1)])) S' ∧ S'.length = (S.set i (.lst [.loc j, .int (n + 1)])).length → 0 ≤ k ∧ k < many ∧ Dk S' i j (n + 1) ∧ Ch i j S S' ∧ S'.length = S.length := by
    rintro k S' ⟨h1, h2, h3, h4, h5⟩
    exact ⟨h1, h2, h3, (Ch.set (.inl rfl)).trans h4, by rw [h5, List.length_set]⟩
  by_cases hz : 0 < cs.length
  · have m0 := Int.emod_nonneg (n + 1) (show (cs.length : Int) ≠ 0 by omega)
    have m1 := Int.emod_lt_of_pos (n + 1) (show (0 : Int) < (cs.length : Int) by omega)
    obtain ⟨m, hml, hme, v, hv, _, _⟩ := atI_mod (l := cs) m0 m1
    have hat : atI (cs.map D.int) ((m : Nat) : Int) = some (.int v) := atI_nat (by rw [List.getElem?_map, hv]; rfl)
    obtain ⟨k, S', h1, h2⟩ := draw_tail (cell := v) (at_ := (m : Int)) d1 (by omega) hm hm2 hc1 hcp hcl (fun _ => ⟨m, hml, rfl⟩)
    refine ⟨k, S', ?_, fin k S' h2⟩
    rw [← h1]
    simp [f_draw, fDef, b__law_draw, g1, g2, hc1, hz, ixN, hme, hat]
  · obtain ⟨k, S', h1, h2⟩ := draw_tail (cell := 0) (at_ := -1) d1 (by omega) hm hm2 hc1 hcp hcl (fun h => absurd h (by decide))
    refine ⟨k, S', ?_, fin k S' h2⟩
    rw [← h1]
    simp [f_draw, fDef, b__law_draw, g1, g2, hc1, hz, ixN]
/-! ### drawing from lists -/
def B : Int := 1000000000000
theorem Dk.setO {S : Sto} {i j l : Nat} {n : Int} {o : Ob} (d : Dk S i j n) (h1 : l ≠ i) (h2 : l ≠ j) : Dk (S.set l o) i j n := by
  obtain ⟨cs, h, r⟩ := d.cells
  exact ⟨d.ne, by rw [List.getElem?_set_ne h1]; exact d.deck, ⟨cs, by rw [List.getElem?_set_ne h2]; exact h, r⟩, d.pos⟩
theorem Ch.setN {i j l : Nat} {S0 S : Sto} {o : Ob} (c : Ch i j S0 S) (h : S0.length ≤ l) : Ch i j S0 (S.set l o) := ⟨by rw [List.length_set]; exact c.len, fun m o' h1 h2 h' => by
  have : m < S0.length := (List.getElem?_eq_some_iff.mp h').1
  rw [List.getElem?_set_ne (by omega)]
  exact c.at_ m o' h1 h2 h'⟩
noncomputable def f_one : Fn := fDef 2 2 (b__law_one f_draw)
theorem one_ok {S : Sto} {i j l : Nat} {n : Int} {ds : List D} (hd : Dk S i j n) (hn : n < B) (hl : S[l]? = some (.lst ds)) (h1 : l ≠ i) (h2 : l ≠ j) (h0 : 0 < ds.length) (hm : ds.length ≤ 1000000000) :
    ∃ d S', f_one [.loc i, .loc l] S = some (d, S') ∧ d ∈ ds ∧ Dk S' i j (n + 1) ∧ Ch i j S S' ∧ S'.length = S.length := by
  obtain ⟨k, S', e, k0, k1, d', c', hs⟩ := draw_ok (many := (ds.length : Int)) hd hn (by omega) (by omega)
  obtain ⟨m, hml, rfl, v, hv, ha, hvm⟩ := atI_mod k0 k1
  have hl' := c'.at_ l _ h1 h2 hl
  exact ⟨v, S', by simp [f_one, fDef, b__law_one, hl, e, hl', ha], hvm, d', c', hs⟩
theorem one_str {S : Sto} {i j : Nat} {n : Int} {z : Str} (hd : Dk S i j n) (hn : n < B) (h0 : 0 < z.cps.toList.length) (hm : z.cps.toList.length ≤ 100000) :
    ∃ c S', f_one [.loc i, .str z] S = some (.str ⟨#[c]⟩, S') ∧ c ∈ z.cps.toList ∧ Dk S' i j (n + 1) ∧ Ch i j S S' ∧ S'.length = S.length := by
  have hz : z.length = z.cps.toList.length := by rw [Array.length_toList]; rfl
  obtain ⟨k, S', e, k0, k1, d', c', hs⟩ := draw_ok (many := (z.length : Int)) hd hn (by omega) (by omega)
  rw [hz] at k1
  obtain ⟨m, hml, rfl, v, hv, ha, hvm⟩ := atI_mod k0 k1
  have hz2 : z.length ≤ 100000 := by omega
  exact ⟨v, S', by simp only [f_one, fDef, b__law_one]; simp [e, ha, hz2], hvm, d', c', hs⟩
theorem lc_draws {i j k l : Nat} {e : FE} {P : D → Prop} {c : Int} {S0 : Sto} (hl : S0.length ≤ l) (hi : i < S0.length) (hj : j < S0.length) (hc : 0 ≤ c) : ∀ (xs : List D) (δ : DEnv) (S : Sto) (acc : List D) (n : Int), Dk S i j n → Ch i j S0 S → S[l]? = some (.lst acc) → acc.length + xs.length < 100000 →
    (∀ x ∈ xs, ∀ S n, Dk S i j n → n + c ≤ B → Ch i j S0 S → ∃ y S' n', e (δ.set k (some x)) S = some (y, S') ∧ P y ∧ Dk S' i j n' ∧ n ≤ n' ∧ n' ≤ n + c ∧ Ch i j S S') → n + c * (xs.length : Int) ≤ B →
    ∃ ys S' n', lcF none k l fYes e xs δ S = some (.loc l, S') ∧ S'[l]? = some (.lst (acc ++ ys)) ∧ ys.length = xs.length ∧ (∀ y ∈ ys, P y) ∧ Dk S' i j n' ∧ n ≤ n' ∧ n' ≤ n + c * (xs.length : Int) ∧ Ch i j S0 S'
  | [], δ, S, acc, n, d, ch, h, _, _, _ => ⟨[], S, n, by simp, by simpa using h, rfl, fun y h => absurd h List.not_mem_nil, d, Int.le_refl _, by simp, ch⟩
  | x :: xs, δ, S, acc, n, d, ch, h, hz, he, hn => by
    have hx : c * ((x :: xs).length : Int) = c + c * (xs.length : Int) := by
      rw [List.length_cons, Int.natCast_add, Int.mul_add]
      simp
      omega
    have hcx : 0 ≤ c * (xs.length : Int) := Int.mul_nonneg hc (by omega)
    rw [List.length_cons] at hz
    obtain ⟨y, S1, n1, e1, p1, d1, l1, u1, c1⟩ := he x List.mem_cons_self S n d (by omega) ch
    have hl1 := c1.at_ l _ (by omega) (by omega) h
    have hlt : l < S1.length := (List.getElem?_eq_some_iff.mp hl1).1
    have d2 : Dk (S1.set l (.lst (acc ++ [y]))) i j n1 := d1.setO (by omega) (by omega)
    have c2 : Ch i j S0 (S1.set l (.lst (acc ++ [y]))) := (ch.trans c1).setN hl
    obtain ⟨ys, S', n', e', h', len', p', d', l', u', c'⟩ := lc_draws hl hi hj hc xs δ _ (acc ++ [y]) n1 d2 c2 (by rw [List.getElem?_set_self hlt]) (by rw [List.length_append, List.length_singleton]; omega) (fun z hz => he z (List.mem_cons_of_mem _ hz)) (by omega)
    refine ⟨y :: ys, S', n', ?_, by rw [h', List.append_assoc]; rfl, by rw [List.length_cons, List.length_cons, len'], fun z hz => ?_, d', by omega, by omega, c'⟩
    · have ha : acc.length < 100000 := by omega
      simp [e1, hl1, ha, e']
    · rcases List.mem_cons.mp hz with h | h
      · rw [h]; exact p1
      · exact p' z h
end PG

set_option Elab.async false
set_option linter.all false
set_option maxRecDepth 100000
set_option maxHeartbeats 1000000
namespace PG
open PySem L2 DL PyProof.Rows
/-! ### the deck -/
noncomputable def f_deck : Fn := fDef 1 2 b__law_deck
theorem lc_abs {q l : Nat} {ds0 : List D} {δ : DEnv} (hδ : δ.length = 2) (hql : q ≠ l) : ∀ (ns : List Int) (S : Sto) (acc : List D), S[q]? = some (.lst ds0) → S[l]? = some (.lst acc) → acc.length + ns.length < 100000 →
    lcF (some (q, ds0)) 1 l fYes (fCB bAbs (fCons (fVar 1) fNil)) (ns.map D.int) δ S = some (.loc l, S.set l (.lst (acc ++ ns.map fun i => D.int (if i < 0 then -i else i))))
  | [], S, acc, h0, h, _ => by
    have : S.set l (.lst acc) = S := by
      apply List.ext_getElem?
      intro k
      by_cases hk : k = l
      · subst hk
        rw [List.getElem?_set_self (List.getElem?_eq_some_iff.mp h).1, h]
      · rw [List.getElem?_set_ne (fun z => hk z.symm)]
    rw [List.map_nil, lcF_nil (show stOk (some (q, ds0)) S from h0)]
    simp [this]
  | i :: ns, S, acc, h0, h, hz => by
    rw [List.length_cons] at hz
    have hlt : l < S.length := (List.getElem?_eq_some_iff.mp h).1
    have ih := lc_abs hδ hql ns (S.set l (.lst (acc ++ [.int (if i < 0 then -i else i)]))) (acc ++ [.int (if i < 0 then -i else i)]) (by rw [List.getElem?_set_ne (fun z => hql z.symm)]; exact h0) (by rw [List.getElem?_set_self hlt]) (by rw [List.length_append, List.length_singleton]; omega)
    obtain ⟨x, y, rfl⟩ : ∃ x y, δ = [x, y] := by
      match δ, hδ with
      | [x, y], _ => exact ⟨x, y, rfl⟩
    have ha : acc.length < 100000 := by omega
    rw [List.map_cons, lcF_cons (show stOk (some (q, ds0)) S from h0)]
    simp [h, ha, ih]
theorem deck_ok {ns : List Int} {S : Sto} (h : ns.length ≤ 63) : ∃ S', f_deck [.scr ns] S = some (.loc (S.length + 2), S') ∧ Dk S' (S.length + 2) (S.length + 1) 0 ∧ Ext S S' := by
  have e1 : DL.cutD (ns.map D.int) none (some (63 : Int)) = ns.map D.int := by
    have := cutD_to (ns.map D.int) 63
    rw [List.take_of_length_le (by simpa using h)] at this
    exact this
  have e2 := lc_abs (q := S.length) (l := S.length + 1) (ds0 := ns.map D.int) (δ := [some (.scr ns), none]) rfl (by omega) ns (S ++ [.lst (ns.map D.int), .lst []]) [] (by simp) (by simp) (by simp; omega)
  have e3 : (S ++ [Ob.lst (ns.map D.int), Ob.lst []]).set (S.length + 1) (.lst (ns.map fun i => D.int (if i < 0 then -i else i))) = S ++ [.lst (ns.map D.int), .lst (ns.map fun i => D.int (if i < 0 then -i else i))] := by
    rw [List.set_append_right (h := by omega)]
    simp
  rw [List.nil_append, e3] at e2
  refine ⟨S ++ [.lst (ns.map D.int), .lst (ns.map fun i => D.int (if i < 0 then -i else i)), .lst [.loc (S.length + 1), .int 0]], ?_, ⟨by omega, by simp, ⟨ns.map fun i => if i < 0 then -i else i, by simp [Function.comp_def], fun c hc => ?_, by simpa using h⟩, Int.le_refl _⟩, ⟨_, rfl⟩⟩
  · simp [f_deck, fDef, b__law_deck, e1, e2]
  · simp only [List.mem_map] at hc
    obtain ⟨a, _, rfl⟩ := hc
    split <;> omega
end PG

set_option Elab.async false
set_option linter.all false
set_option maxRecDepth 100000
set_option maxHeartbeats 4000000
namespace DL
open PySem L2 PyProof.Rows
/-- what the module says of a class of errors, over the built-in class B -/
structure ExK (K : PySem.W.Frag) (C : Addr) (B newId initId : String) (bmB : List Value) : Prop where
  fb : ExcBaseFacts B newId initId bmB
  sf : StoreFacts B bmB "object.__setattr__" "object"
  ini : PySem.W.excInitIn K C bmB newId = true
  ov : PySem.W.excOver K C bmB = true
  sa : PySem.W.findIn K (.ref C) "__setattr__" = some (some (.builtin "object.__setattr__"))
  kp : PySem.W.keepIn K (.ref C) = true
  xc : ExcC K C
section
variable {X : Cx} {pins : List (Addr × Obj)} {σ : L2.St} {H : Hp} {s : Shared} {a C : Addr} {f : Str} {y : V} {u : Value} {B newId initId : String} {bmB : List Value}
/-- the heap behind a store: a's record says dx, dx is new -/
theorem ex_laid {hp h' : Heap} {g : Array GenState} {d : Drawn} {t tk' : Nat} {os : OsState} {dx : Addr} {t1 : Addr} (I : Inv X pins σ H ⟨hp, g, d, t, os⟩) (e : H a = some (exo a C none))
    (k : ∀ b o, b ≠ a → hp.get? b = some o → h'.get? b = some o) (dn : hp.objs.size ≤ dx)
    (hx : h'.get? a = some ({ cls := .ref C, dict := some dx, data := .fields #[.ref t1, .none, .none, .none, .bool false, .none] } : Obj))
    (hn : h'.Ns1 dx (fun z => if z = f then some u else none)) (ry : RelV y u) :
    H dx = none ∧ Inv X pins σ (upd (upd H dx (exd dx [(f, y)])) a (exo a C (some dx))) ⟨h', g, d, tk', os⟩ := by
  have n0 : H dx = none := I.hok.fresh dn
  refine ⟨n0, ?_⟩
  have old : ∀ {b : Addr} {o : Obj}, hp.get? b = some o → b ≠ dx := fun {b o} q => Nat.ne_of_lt (Nat.lt_of_lt_of_le (Heap.lt_size q) dn)
  have apart : ∀ {b : Addr}, H b = none → b ≠ a := fun {b} n z => by rw [z, e] at n; exact nomatch n
  have un : Un X.fs [] H (upd (upd H dx (exd dx [(f, y)])) a (exo a C (some dx))) hp h' := by
    refine ⟨fun b o q n _ _ => k b o (apart n) q, fun b o q n _ _ => ⟨o.slots, k b o (apart n) q⟩, fun b o q n _ => ?_, fun b o q _ => ?_, fun b xs q => ?_, fun b o v q => ?_, fun b ps q => ⟨#[], ?_⟩⟩
    · rw [upd_ne (apart n), upd_ne (old q), n]
    · by_cases hb : b = a
      · subst hb
        exact ⟨_, hx⟩
      · exact ⟨_, k _ _ hb q⟩
    · rw [upd_ne (at_ne e q exo_tup), upd_ne (ne_of_none q n0), q]
    · rw [upd_ne (at_ne e q exo_frz), upd_ne (ne_of_none q n0), q]
    · rw [upd_ne (at_ne e q exo_tbl), upd_ne (ne_of_none q n0), q]
      simp
  refine I.un (t' := tk') un (fun b o q => ?_)
  by_cases hb : b = a
  · subst hb
    rw [upd_same] at q
    cases q
    exact exo_ok hx
  · by_cases hd : b = dx
    · subst hd
      rw [upd_ne hb, upd_same] at q
      cases q
      exact exd_ok hn (relO_put (fs := []) ry (fun _ => trivial))
    · rw [upd_ne hb, upd_ne hd] at q
      refine (I.hok b o q).stay (fun c v hc z => ?_) (fun c hc => ?_) (fun c xs hc => ?_)
      · refine k c v ?_ z
        rcases hc with hc | hc
        · exact hc ▸ hb
        · exact at_ne e hc exo_own
      · rw [upd_ne (at_ne e hc exo_own), upd_ne (ne_of_none hc n0), hc]
      · rw [upd_ne (at_ne e hc exo_tup), upd_ne (ne_of_none hc n0), hc]
theorem ex_store {Q : Unit → Shared → Prop} {E : Value → Shared → Prop} {A : Around} (T : ExK X.K C B newId initId bmB) (I : Inv X pins σ H s) (e : H a = some (exo a C none))
    (hno : PySem.W.findIn X.K (.ref C) f = some none) (ry : RelV y u)
    (h : ∀ dx s', H dx = none → dx ≠ a → Inv X pins σ (upd (upd H dx (exd dx [(f, y)])) a (exo a C (some dx))) s' → Q () s') :
    wpAny (model X.prog X.w) A (setAttr (.ref a) f u) Q E s := by
  obtain ⟨t1, ho⟩ := exo_at I.hok e
  obtain ⟨cd, hc, hd'⟩ := PySem.W.any_some T.xc.hd
  obtain ⟨hp, g, d, t, os⟩ := s
  have J : PySem.W.InstAt hp a ({ cls := .ref C, dict := none, data := .fields #[.ref t1, .none, .none, .none, .bool false, .none] } : Obj) C none := ⟨ho, rfl, rfl, trivial⟩
  have htk : PySem.W.takerIn X.K C f = some none := by unfold PySem.W.takerIn; rw [hno]; rfl
  refine PySem.W.set_plain I.kIn J T.sa (PySem.W.osa_openX (s := ⟨hp, g, d, t + 1, os⟩) T.sf I.kIn J T.ov htk (fun b => ?_))
  have nea : a ≠ hp.objs.size := Nat.ne_of_lt (Heap.lt_size ho)
  have hxp : (hp.push (PySem.W.dictOf [] 0)).get? a = some ({ cls := .ref C, dict := none, data := .fields #[.ref t1, .none, .none, .none, .bool false, .none] } : Obj) := Heap.get?_push_of_some _ ho
  refine wpAny_bind (wpAny_pure (wpAny_bind (PySem.W.instanceDict_exc (s := ⟨hp, g, d, t + 1, os⟩) (c2 := .none) ho (PySem.W.looks_clsIn I.kIn hc) hd' ?_)))
  refine PySem.HandSPX.store_in_new (hp := (hp.push (PySem.W.dictOf [] 0)).update a fun o => { o with dict := some hp.objs.size }) ?_ ?_
  · exact ⟨_, #[], _, (Heap.get?_update_ne _ _ _ _ nea.symm).trans (Heap.get?_push_at rfl rfl), rfl, fun z hz => absurd hz (by simp), fun _ => rfl⟩
  · intro h' tk' hn' hs
    have hx : h'.get? a = some ({ cls := .ref C, dict := some hp.objs.size, data := .fields #[.ref t1, .none, .none, .none, .bool false, .none] } : Obj) := (hs.2 a nea).trans (Heap.get?_update_self _ hxp rfl)
    obtain ⟨n0, J'⟩ := ex_laid (tk' := tk') (f := f) (y := y) I e (fun b o hb ho' => (hs.2 b (Nat.ne_of_lt (Heap.lt_size ho'))).trans ((Heap.get?_update_ne _ _ _ _ hb).trans (Heap.get?_push_of_some _ ho'))) (Nat.le_refl _) hx hn' ry
    exact h hp.objs.size _ n0 nea.symm J'
end
end DL

set_option Elab.async false
set_option linter.all false
set_option maxRecDepth 100000
set_option maxHeartbeats 4000000
namespace DL
open PySem L2 PyProof.Rows
/-- what __init__ of an error's class does: the field f is set -/
def spInit (K : PySem.W.Frag) (C : Addr) (f : Str) : Sp := fun vs H Q _ => ∃ (a : Addr) (y : V), vs = [.ref a, y] ∧ H a = some (exo a C none) ∧
  ∀ dx, H dx = none → dx ≠ a → Q .non (upd (upd H dx (exd dx [(f, y)])) a (exo a C (some dx)))
/-- a class of errors whose __init__ sets the field f -/
structure Er (P : Program) (w : World) (K : PySem.W.Frag) (mg : Str → Option Value) (base : Heap) (k : Nat) (x f : Str) : Prop where
  ex : ∃ (C fI : Addr) (fd : FuncData) (p : Str) (B newId initId : String) (bmB : List Value), mg x = some (.ref C) ∧ PySem.W.nsIn K mainGlobals x = some (some (.ref C)) ∧ ExK K C B newId initId bmB ∧
    PySem.W.findIn K (.ref C) "__init__" = some (some (.ref fI)) ∧ PySem.W.typeIn K (.ref fI) = some (.type "function") ∧ PySem.W.findIn K (.ref C) f = some none ∧ FnOk P w K mg base CX0 k fI fd ["self", p] (spInit K C f) ∧ Binds K fd ["self", p] []
/-- a class of errors without fields -/
structure Er0 (K : PySem.W.Frag) (mg : Str → Option Value) (x : Str) : Prop where
  ex : ∃ (C : Addr) (B newId initId : String) (bmB : List Value), mg x = some (.ref C) ∧ PySem.W.nsIn K mainGlobals x = some (some (.ref C)) ∧ ExK K C B newId initId bmB ∧
    PySem.W.findIn K (.ref C) "__init__" = some (some (.builtin initId))
theorem Er.mono {P : Program} {w : World} {K : PySem.W.Frag} {mg : Str → Option Value} {base : Heap} {j k : Nat} {x f : Str} (E : Er P w K mg base j x f) (h : j ≤ k) : Er P w K mg base k x f := by
  obtain ⟨C, fI, fd, p, B, n, i, bm, h1, h2, h3, h4, h5, h6, h7, h8⟩ := E.ex
  exact ⟨C, fI, fd, p, B, n, i, bm, h1, h2, h3, h4, h5, h6, h7.mono h, h8⟩
section
variable {X : Cx} {o e : Expr} {es : List Expr} {to te : TE} {ta : TA} {f x : Str} {p p' pos : Pos} {C : Addr} {B newId initId : String} {bmB : List Value}
def tExst (C : Addr) (f : Str) (to te : TE) : TS := fun D σ H => te σ H fun y H1 => to σ H1 fun x H2 => ∃ a : Addr, x = .ref a ∧ H2 a = some (exo a C none) ∧ ∀ dx, H2 dx = none → dx ≠ a → D.nx σ (upd (upd H2 dx (exd dx [(f, y)])) a (exo a C (some dx)))
theorem ps_exst (T : ExK X.K C B newId initId bmB) (hno : PySem.W.findIn X.K (.ref C) f = some none) (ho : PE X o to) (he : PE X e te) (hs : swapsWith e (some (.Attribute o f p')) pos.line X.env = pure false := by rfl) : PS X (.Assign [.Attribute o f p'] e pos) (tExst C f to te) := by
  refine ⟨fun pins s σ H D I h => plainObj_wpAny_Assign_Attribute (thn (he.run pins s σ H _ I h) ?_) hs⟩
  rintro v s1 ⟨y, H1, I1, r1, q1⟩
  refine thn (ho.run pins s1 σ H1 _ I1 q1) ?_
  rintro u s2 ⟨x, H2, I2, r2, a, rfl, ea, q⟩
  cases (show u = Value.ref a from r2)
  exact ex_store T I2 ea hno r1 (fun dx s' n ne J => ⟨σ, _, J, q dx n ne⟩)
end
/-- __init__(self, p): self.f = p -/
theorem fn_init {P : Program} {w : World} {K : PySem.W.Frag} {mg : Str → Option Value} {base : Heap} {k : Nat} {qual f p : Str} {st : Stmt} {fI C : Addr} {fd : FuncData} {B newId initId : String} {bmB : List Value}
    {q1 q2 q3 q4 : Pos} (F : Fun K "__init__" qual st fI fd) (S : FnScope ["self", p] ["self", p] (defScope st)) (T : ExK K C B newId initId bmB) (hno : PySem.W.findIn K (.ref C) f = some none)
    (hbody : defBody st = [.Assign [.Attribute (.Name "self" q1) f q2] (.Name p q3) q4])
    (v0 : Vis (defScope st) "self") (v1 : Vis (defScope st) p) (d0 : (p == ("__debug__" : Str)) = false) (d1 : (p == ("__classdict__" : Str)) = false)
    (hs : ∀ (X : Cx), X.env.scope = defScope st → swapsWith (.Name p q3) (some (.Attribute (.Name "self" q1) f q2)) q4.line X.env = pure false) :
    FnOk P w K mg base CX0 (k + 1) fI fd ["self", p] (spInit K C f) := by
  obtain ⟨oc, od, kV, doc, pm, an, cdv, ct, osl, rfl, lk, hcd⟩ := F.ex
  refine fn_of lk hcd S (fun vs H Q E ⟨a, y, e, _⟩ => by rw [e]; rfl) (fun A outer s H vs Q E hr hsp => ?_)
  refine ⟨tExst C f (tVar 0) (tVar 1), ?_, ?_⟩
  · refine PSs.nox ?_
    rw [hbody]
    refine pss_one (ps_exst (X := (cxOf CX0 P w K mg base ["self", p] qual (defScope st) fI cdv A outer s H E).nox) (C := C) T hno (pe_var rfl v0 (by decide) (by decide)) (pe_var rfl v1 d0 d1) (hs _ rfl))
  · obtain ⟨a, y, rfl, ea, q⟩ := hsp
    exact ⟨y, rfl, ⟨.ref a, rfl, a, rfl, ea, q⟩⟩
section
variable {X : Cx} {e : Expr} {es : List Expr} {te : TE} {ta : TA} {f x : Str} {p pos : Pos} {C : Addr} {B newId initId : String} {bmB : List Value}
/-- x(e): an error with the field f -/
def tMkE (C : Addr) (f : Str) (ta : TA) : TE := fun σ H Q => ta σ H fun vs H1 => ∃ y, vs = [y] ∧ ∀ a dx, H1 a = none → H1 dx = none → dx ≠ a → Q (.ref a) (upd (upd H1 dx (exd dx [(f, y)])) a (exo a C (some dx)))
theorem upd_again {H : Hp} {a b : Addr} {o u v : HO} : upd (upd (upd H a o) b u) a v = upd (upd H b u) a v := by
  funext c
  by_cases h : c = a
  · rw [h, upd_same, upd_same]
  · rw [upd_ne h, upd_ne h]
    by_cases h2 : c = b
    · rw [h2, upd_same, upd_same]
    · rw [upd_ne h2, upd_ne h2, upd_ne h]
theorem pe_mkE {fI : Addr} {fd : FuncData} {k : Nat} {pn : Str} (T : ExK X.K C B newId initId bmB) (iC : PySem.W.findIn X.K (.ref C) "__init__" = some (some (.ref fI))) (tI : PySem.W.typeIn X.K (.ref fI) = some (.type "function"))
    (F1 : FnOk X.prog X.w X.K X.mg X.base CX0 k fI fd ["self", pn] (spInit X.K C f)) (hb : Binds X.K fd ["self", pn] []) (hr : Room (k + 1) X.A) (hg : Gl X x) (hm : X.mg x = some (.ref C)) (hpa : PA X [e] ta)
    (hdb : (x == ("__debug__" : Str)) = false := by decide) (hst : starEach [e] X.env = (false, eval e X.env) :: starEach [] X.env := by rfl) :
    PE X (.Call (.Name x p) [e] [] pos) (tMkE C f ta) := by
  refine ⟨fun pins s σ H Q I h => wpAny_Call_Name_kw (ld_glob I hg hm ?_ hdb)⟩
  refine PySem.W.callWith_K (h₀ := X.base) I.ok.mod.kin T.kp (thn (hpa.run pos pins s σ H _ I h) ?_) hst (by rfl)
  rintro us s1 ⟨vs, H1, I1, r1, y, rfl, q1⟩
  refine ⟨I1.kIn, ?_⟩
  obtain ⟨nm, N, qn, bs, bm, hdct, sn, sub, ab, col, dd, k0, k1, k2, k3, k5, hC, hT⟩ := PySem.W.excInit_of I1.kIn T.ini
  cases r1 with
  | @cons _ u0 _ ur ru rn =>
    cases rn
    obtain ⟨hp, g, dr, tk, os⟩ := s1
    have hle : hp.objs.size ≤ hp.objs.size + 1 := Nat.le_succ _
    have n1 : H1 (hp.objs.size + 1) = none := I1.hok.fresh hle
    have kk : ∀ b o, hp.get? b = some o → ((hp.push (PySem.W.kdv_tup [u0])).push (PySem.HandSPX.excO C hp.objs.size)).get? b = some o := fun b o e => Heap.get?_push_of_some _ (Heap.get?_push_of_some _ e)
    have hget : ((hp.push (PySem.W.kdv_tup [u0])).push (PySem.HandSPX.excO C hp.objs.size)).get? (hp.objs.size + 1) = some (PySem.HandSPX.excO C hp.objs.size) := by heap_get
    have I2 := I1.laid (t' := tk) (a := hp.objs.size + 1) (o := exo (hp.objs.size + 1) C none) (h' := (hp.push (PySem.W.kdv_tup [u0])).push (PySem.HandSPX.excO C hp.objs.size)) kk hle (exo_ok hget)
    have r2 : Vals [V.ref (hp.objs.size + 1), y] [Value.ref (hp.objs.size + 1), u0] := .cons rfl (.cons ru .nil)
    have sp1 : spInit X.K C f [V.ref (hp.objs.size + 1), y] (upd H1 (hp.objs.size + 1) (exo (hp.objs.size + 1) C none)) (fun v H2 => v = .non ∧ Q (.ref (hp.objs.size + 1)) H2) (fun _ _ _ => False) :=
      ⟨_, y, rfl, upd_same, fun dx hd ne => ⟨rfl, by
        rw [upd_ne ne] at hd
        rw [upd_again]
        exact q1 _ dx n1 hd ne⟩⟩
    have hbi := hb _ [Value.ref (hp.objs.size + 1), u0] I2.kIn rfl
    rw [List.append_nil] at hbi
    refine wpAny_call (PySem.HandSPX.call_own T.fb hT hC (PySem.W.looks_findIn I1.kIn iC) (fun self => PySem.W.bind_fn I1.kIn self tI) (by show 1 ≤ sizeLine; rw [sizeLine_eq]; omega) (codeAny_mono (F1.run _ X.stack _ _ ⟨[Value.ref (hp.objs.size + 1), u0], []⟩ [Value.ref (hp.objs.size + 1), u0] _ _ (fun _ _ _ => False) (hr.make C [u0] []) (I2.env0.make C [u0] []) hbi r2 sp1) (fun r s' hq' => ?_)))
    match r, hq' with
    | .error er, hq' => exact hq'.elim
    | .ok (.ret u), hq' =>
      obtain ⟨v, H2, I3, rv, rfl, q⟩ := I2.after hq'
      exact ⟨rv, .ref _, H2, I3, rfl, q⟩
    | .ok .next, hq' => exact False.elim hq'
    | .ok .brk, hq' => exact False.elim hq'
    | .ok .cont, hq' => exact False.elim hq'
/-- x(): an error without fields -/
def tMk0 (C : Addr) : TE := fun σ H Q => ∀ a, H a = none → Q (.ref a) (upd H a (exo a C none))
theorem pe_mk0 (T : ExK X.K C B newId initId bmB) (iC : PySem.W.findIn X.K (.ref C) "__init__" = some (some (.builtin initId))) (hg : Gl X x) (hm : X.mg x = some (.ref C)) (hdb : (x == ("__debug__" : Str)) = false := by decide) :
    PE X (.Call (.Name x p) [] [] pos) (tMk0 C) := by
  refine ⟨fun pins s σ H Q I h => wpAny_Call_Name_kw (ld_glob I hg hm ?_ hdb)⟩
  refine PySem.W.callWith_K0 I.kIn T.kp ?_
  obtain ⟨nm, N, qn, bs, bm, hdct, sn, sub, ab, col, dd, k0, k1, k2, k3, k5, hC, hT⟩ := PySem.W.excInit_of I.kIn T.ini
  obtain ⟨hp, g, dr, tk, os⟩ := s
  show wpAny _ _ (call (.ref C) []) _ _ _
  refine PySem.W.call_B T.fb hT hC (PySem.W.looks_findIn I.kIn iC) (by show 0 ≤ sizeLine; omega) (fun h' k he ht => ?_)
  have hle : hp.objs.size ≤ hp.objs.size + 1 := Nat.le_succ _
  exact ⟨.ref _, _, I.laid (t' := tk) k hle (exo_ok he), rfl, h _ (I.hok.fresh hle)⟩
end
end DL

set_option Elab.async false
set_option linter.all false
set_option maxRecDepth 100000
set_option maxHeartbeats 4000000
namespace DL
open PySem L2 PyProof.Rows
/-- a class of errors whose __init__ sets the field f, at C -/
structure ErA (P : Program) (w : World) (K : PySem.W.Frag) (mg : Str → Option Value) (base : Heap) (k : Nat) (x f : Str) (C : Addr) : Prop where
  mgx : mg x = some (.ref C)
  ns : PySem.W.nsIn K mainGlobals x = some (some (.ref C))
  xc : ExcC K C
  hf : PySem.W.findIn K (.ref C) f = some none
  ex : ∃ (fI : Addr) (fd : FuncData) (p : Str) (B newId initId : String) (bmB : List Value), ExK K C B newId initId bmB ∧
    PySem.W.findIn K (.ref C) "__init__" = some (some (.ref fI)) ∧ PySem.W.typeIn K (.ref fI) = some (.type "function") ∧ FnOk P w K mg base CX0 k fI fd ["self", p] (spInit K C f) ∧ Binds K fd ["self", p] []
/-- a class of errors without fields, at C -/
structure ErB (K : PySem.W.Frag) (mg : Str → Option Value) (x : Str) (C : Addr) : Prop where
  mgx : mg x = some (.ref C)
  ns : PySem.W.nsIn K mainGlobals x = some (some (.ref C))
  xc : ExcC K C
  ex : ∃ (B newId initId : String) (bmB : List Value), ExK K C B newId initId bmB ∧ PySem.W.findIn K (.ref C) "__init__" = some (some (.builtin initId))
theorem ErA.mono {P : Program} {w : World} {K : PySem.W.Frag} {mg : Str → Option Value} {base : Heap} {j k : Nat} {x f : Str} {C : Addr} (E : ErA P w K mg base j x f C) (h : j ≤ k) : ErA P w K mg base k x f C := by
  obtain ⟨h1, h2, h3, h0, fI, fd, p, B, n, i, bm, h4, h5, h6, h7, h8⟩ := E
  exact ⟨h1, h2, h3, h0, fI, fd, p, B, n, i, bm, h4, h5, h6, h7.mono h, h8⟩
section
variable {X : Cx} {e : Expr} {es : List Expr} {te : TE} {ta : TA} {f x : Str} {p pos : Pos} {C : Addr} {g : FE}
def fMkE (x f : Str) (g : FE) (δ : DEnv) (S : Sto) : Option (D × Sto) := (g δ S).bind fun q => some (.exc x f [q.1], q.2)
def fMk0 (x : Str) (δ : DEnv) (S : Sto) : Option (D × Sto) := some (.exc x "" [], S)
theorem x_mkE {k : Nat} (E : ErA X.prog X.w X.K X.mg X.base k x f C) (hr : Room (k + 1) X.A) (hg : Gl X x) (h : PD X e te (toE g))
    (hdb : (x == ("__debug__" : Str)) = false := by decide) (hst : starEach [e] X.env = (false, eval e X.env) :: starEach [] X.env := by rfl) :
    PD X (.Call (.Name x p) [e] [] pos) (tMkE C f (tCons te tNil)) (toE (fMkE x f g)) := by
  obtain ⟨fI, fd, pn, B, n, i, bm, T, h5, h6, h7, h8⟩ := E.ex
  refine ⟨pe_mkE T h5 h6 h7 h8 hr hg E.mgx (pa_cons h.pe pa_nil hst) hdb hst, fun σ H m S δ Q Q' R ev ⟨q, hq, q1⟩ c => ?_⟩
  simp only [fMkE, Option.bind_eq_some_iff] at hq
  obtain ⟨r, hr1, hr2⟩ := hq
  cases hr2
  refine h.sim σ H m S δ _ (fun d S1 => d = r.1 ∧ S1 = r.2) R ev ⟨r, hr1, rfl, rfl⟩ (fun d S1 v H1 m1 hd k1 g1 R1 r1 => ?_)
  obtain ⟨rfl, rfl⟩ := hd
  refine ⟨v, rfl, fun a dx ha hdx ne => ?_⟩
  have hn2 : upd H1 dx (exd dx [(f, v)]) a = none := by rw [upd_ne ne.symm]; exact ha
  have k2 : Kp H1 (upd H1 dx (exd dx [(f, v)])) := .new hdx
  have k3 := k2.trans (Kp.new (o := exo a C (some dx)) hn2)
  refine c _ _ _ _ m1 q1 (k1.trans k3) g1 ((R1.new hdx).new hn2) (.exc (vs := [v]) ⟨C, E.ns, .inr ⟨dx, v, rfl, upd_same, ?_⟩⟩ (.cons (Dv.mono k3 (.refl m1) _ _ r1) .nil))
  rw [upd_ne ne, upd_same]
theorem x_mk0 (E : ErB X.K X.mg x C) (hg : Gl X x) (hdb : (x == ("__debug__" : Str)) = false := by decide) : PD X (.Call (.Name x p) [] [] pos) (tMk0 C) (toE (fMk0 x)) := by
  obtain ⟨B, n, i, bm, T, h5⟩ := E.ex
  refine ⟨pe_mk0 T h5 hg E.mgx hdb, fun σ H m S δ Q Q' R ev ⟨q, hq, q1⟩ c a ha => ?_⟩
  cases hq
  exact c _ _ _ _ m q1 (.new ha) (.refl m) (R.new ha) (.exc (vs := []) ⟨C, E.ns, .inl ⟨rfl, upd_same⟩⟩ .nil)
/-- e.f of an error of the class x -/
def tFldE (C : Addr) (f : Str) (te : TE) : TE := fun σ H Q => te σ H fun v H1 => ∃ (a dx : Addr) (y : V), v = .ref a ∧ H1 a = some (exo a C (some dx)) ∧ H1 dx = some (exd dx [(f, y)]) ∧ Q y H1
theorem pe_fldE (T : ExcC X.K C) (hno : PySem.W.findIn X.K (.ref C) f = some none) (he : PE X e te) (hb : attributeBase e f X.env (eval e X.env) = eval e X.env := by rfl) : PE X (.Attribute e f pos) (tFldE C f te) := by
  refine ⟨fun pins s σ H Q I h => attr_of hb (thn (he.run pins s σ H _ I h) ?_)⟩
  rintro u s1 ⟨x, H1, I1, rx, a, dx, y, rfl, ea, ed, q⟩
  cases (show u = Value.ref a from rx)
  obtain ⟨t1, ho⟩ := exo_at I1.hok ea
  obtain ⟨mA, hns, rel⟩ := exd_at I1.hok ed
  obtain ⟨od, hod, hl⟩ := lookIn_ns hns
  obtain ⟨u, hu, ru⟩ := RelO.some_of (v := y) (o := mA f) (by have z := rel f; rw [lookup_put, if_pos rfl] at z; exact z)
  exact HandSPX.exc_get I1.kIn (⟨ho, rfl, rfl, hod⟩ : PySem.W.InstAt s1.heap a _ C (some od)) T.hg T.hk T.hs (PySem.W.findObj_own T.hd hno rfl (by rw [hl, hu])) (handed_of ru) ⟨y, H1, I1.tok _, ru, q⟩
def fldK (x f : Str) : Option (D × Sto) → Option (D × Sto)
  | some (.exc x' f' [d], S) => if x' = x ∧ f' = f then some (d, S) else none
  | _ => none
def fFldE (x f : Str) (g : FE) (δ : DEnv) (S : Sto) : Option (D × Sto) := fldK x f (g δ S)
theorem x_fldE {k : Nat} (E : ErA X.prog X.w X.K X.mg X.base k x f C) (h : PD X e te (toE g)) (hb : attributeBase e f X.env (eval e X.env) = eval e X.env := by rfl) : PD X (.Attribute e f pos) (tFldE C f te) (toE (fFldE x f g)) := by
  refine ⟨pe_fldE E.xc E.hf h.pe hb, fun σ H m S δ Q Q' R ev ⟨q, hq, q1⟩ c => ?_⟩
  unfold fFldE at hq
  cases hg : g δ S with
  | none => rw [hg] at hq; cases hq
  | some r =>
    rw [hg] at hq
    obtain ⟨d0, S0⟩ := r
    unfold fldK at hq
    split at hq
    · rename_i x' f' d S1 he
      split at hq
      · rename_i hxf
        obtain ⟨rfl, rfl⟩ := hxf
        cases hq
        cases he
        refine h.sim σ H m S δ _ (fun d2 S2 => d2 = .exc x' f' [d] ∧ S2 = S0) R ev ⟨_, hg, rfl, rfl⟩ (fun d2 S2 v H1 m1 hd k1 g1 R1 r1 => ?_)
        obtain ⟨rfl, rfl⟩ := hd
        cases r1 with
        | @exc a _ _ vs _ ha hv =>
          cases hv with
          | cons hv1 hv2 =>
            cases hv2
            obtain ⟨C', hC, ⟨hz, _⟩ | ⟨dx, y, hz, e1, e2⟩⟩ := ha
            · cases hz
            · cases hz
              have : C' = C := by
                have z := hC.symm.trans E.ns
                cases z
                rfl
              subst this
              exact ⟨a, dx, _, rfl, e1, e2, (c.mono k1 g1).same R1 q1 hv1⟩
      · cases hq
    · cases hq
/-! isinstance of an error -/
def rIsX (K : PySem.W.Frag) (cV : V) (cv : Value) : List V → Hp → VK → Prop := fun xs H Q => ∃ (a C : Addr) (od : Option Addr) (b : Bool), xs = [.ref a, cV] ∧ H a = some (exo a C od) ∧ (od = none ∨ ∃ dx fs, od = some dx ∧ H dx = some (exd dx fs)) ∧ ExcC K C ∧
  PySem.W.kitOne K (.ref C) cv = some b ∧ Q (.bl b) H
theorem call_isX {cV : V} {cv : Value} (hcv : ∀ u, RelV cV u → u = cv) : CallR X (.builtin "isinstance") (rIsX X.K cV cv) := by
  rintro pins s σ H xs us Q I r ⟨a, C, od, b, rfl, ea, hod, T, hk, q⟩
  cases r with
  | @cons _ u1 _ _ r1 r2 =>
    cases r2 with
    | @cons _ u2 _ _ r3 r4 =>
      cases r4
      cases (show u1 = Value.ref a from r1)
      have e2 := hcv _ r3
      subst e2
      obtain ⟨t1, ho⟩ := exo_at I.hok ea
      have hcl : (PySem.W.clsIn X.K C).isSome = true := by
        obtain ⟨cd, hc, _⟩ := PySem.W.any_some T.hd
        rw [hc]; rfl
      have fin : ∀ oo : Option Obj, PySem.W.InstAt s.heap a ({ cls := .ref C, dict := od, data := .fields #[.ref t1, .none, .none, .none, .bool false, .none] } : Obj) C oo → wpAny (model X.prog X.w) X.A (call (.builtin "isinstance") [.ref a, u2]) (EP X pins σ Q) X.xe s := fun oo J =>
        PySem.W.kia_one (PySem.W.kitx_exc hcl T.hg T.hk T.hs T.ha T.hn T.ht T.hm) I.kIn J hk (fun z => nomatch z) (fun tk => ⟨.bl b, H, I.kept (t' := tk) (fun _ _ z => z), rfl, q⟩)
      rcases hod with rfl | ⟨dx, fs, rfl, ed⟩
      · exact fin none ⟨ho, rfl, rfl, trivial⟩
      · obtain ⟨mA, ⟨o, es, ep, ho2, _⟩, _⟩ := exd_at I.hok ed
        exact fin (some o) ⟨ho, rfl, rfl, ho2⟩
def isK (tab : Str → Option Bool) : Option (D × Sto) → Option (D × Sto)
  | some (.exc x _ ds, S) => if ds.length ≤ 1 then (tab x).map fun b => (.bl b, S) else none
  | _ => none
def fIsE (tab : Str → Option Bool) (g : FE) (δ : DEnv) (S : Sto) : Option (D × Sto) := isK tab (g δ S)
theorem x_isE {cV : V} {cv : Value} {y : Str} {pT : Pos} {tab : Str → Option Bool} (hg : Gl X "isinstance") (hm : X.mg "isinstance" = none) (hv : bootBuiltins "isinstance" = some (.builtin "isinstance")) (h : PD X e te (toE g))
    (hpe : PE X (.Name y pT) (tC cV)) (hcv : ∀ u, RelV cV u → u = cv) (hT : ∀ z C b, tab z = some b → PySem.W.nsIn X.K mainGlobals z = some (some (.ref C)) → ExcC X.K C ∧ PySem.W.kitOne X.K (.ref C) cv = some b)
    (he1 : starEach [e, .Name y pT] X.env = (false, eval e X.env) :: starEach [.Name y pT] X.env := by rfl) (he2 : starEach [.Name y pT] X.env = (false, eval (.Name y pT) X.env) :: starEach [] X.env := by rfl)
    (hpl : (backTo pos (starEach [.Name y pT] X.env)).any (·.1) = false := by rfl) :
    PD X (.Call (.Name "isinstance" p) [e, .Name y pT] [] pos) (tCB (rIsX X.K cV cv) (tCons te (tCons (tC cV) tNil))) (toE (fIsE tab g)) := by
  refine ⟨pe_callB (call_isX hcv) hg hm hv (pa_cons h.pe (pa_cons hpe pa_nil he2) he1) (by decide) (by decide) he1 hpl, fun σ H m S δ Q Q' R ev ⟨q, hq, q1⟩ c => ?_⟩
  unfold fIsE at hq
  cases hgs : g δ S with
  | none => rw [hgs] at hq; cases hq
  | some r =>
    rw [hgs] at hq
    obtain ⟨d0, S0⟩ := r
    unfold isK at hq
    split at hq
    · rename_i x' f' ds S1 he
      cases he
      split at hq
      · rename_i hl
        obtain ⟨b, hb, hq⟩ := Option.map_eq_some_iff.mp hq
        subst hq
        refine h.sim σ H m S δ _ (fun d2 S2 => d2 = .exc x' f' ds ∧ S2 = S0) R ev ⟨_, hgs, rfl, rfl⟩ (fun d2 S2 v H1 m1 hd k1 g1 R1 r1 => ?_)
        obtain ⟨rfl, rfl⟩ := hd
        cases r1 with
        | @exc a _ _ vs _ ha hv =>
          obtain ⟨C, hC, alt⟩ := ha
          obtain ⟨T, hk⟩ := hT _ _ _ hb hC
          have fin := (c.mono k1 g1).same R1 q1 (.bl b)
          rcases alt with ⟨hz, e1⟩ | ⟨dx, y, hz, e1, e2⟩
          · exact ⟨a, C, none, b, rfl, e1, .inl rfl, T, hk, fin⟩
          · exact ⟨a, C, some dx, b, rfl, e1, .inr ⟨dx, _, rfl, e2⟩, T, hk, fin⟩
      · cases hq
    · cases hq
/-- a constant of a class -/
structure Kc (K : PySem.W.Frag) (mg : Str → Option Value) (x f : Str) (v : V) (d : D) : Prop where
  ex : ∃ (C : Addr) (mc u : Value), mg x = some (.ref C) ∧ ClX.CRead K C mc ∧ ClX.CVal K C mc f v u
  dv : ∀ H m, Dv K H m v d
theorem x_kc {v : V} {d : D} (E : Kc X.K X.mg x f v d) (hg : Gl X x) (hdb : (x == ("__debug__" : Str)) = false := by decide)
    (hb : attributeBase (.Name x p) f X.env (eval (.Name x p) X.env) = eval (.Name x p) X.env := by rfl) : PD X (.Attribute (.Name x p) f pos) (tC v) (toE (fC d)) := by
  obtain ⟨C, mc, u, hm, r, k⟩ := E.ex
  refine PD.imp (t := dC d) ⟨⟨fun pins s σ H Q I h => attr_of hb (ld_glob I hg hm ?_ hdb)⟩, sim_c E.dv⟩ imp_C
  exact ClX.getcval_ok I r k (fun s' J => ⟨v, H, J, k.rel, h⟩)
end
end DL

set_option Elab.async false
set_option linter.all false
set_option maxRecDepth 100000
set_option maxHeartbeats 1000000
namespace DL
open PySem L2 PyProof.Rows
section
variable {X : Cx}
theorem bls_at {ys : List Bool} : ∀ {its : List Value}, Vals (ys.map V.bl) its → its = ys.map Value.bool := by
  induction ys with
  | nil => intro its r; cases r; rfl
  | cons y ys ih =>
    intro its r
    cases r with
    | @cons _ u _ us r1 r2 =>
      cases (show u = Value.bool y from r1)
      rw [ih r2]; rfl
theorem all_eqB {ys zs : List Bool} (h : ys.length = zs.length) : (List.range ys.length).all (fun j => ys.getD j false == zs.getD j false) = decide (ys = zs) := by
  by_cases e : ys = zs
  · subst e
    rw [decide_eq_true rfl, List.all_eq_true]
    intro j _
    exact beq_self_eq_true _
  · rw [decide_eq_false e, List.all_eq_false]
    by_cases hh : ∃ x, x ∈ List.range ys.length ∧ ¬ (ys.getD x false == zs.getD x false) = true
    · exact hh
    · exfalso
      apply e
      apply List.ext_getElem h
      intro j h1 h2
      have hj : (ys.getD j false == zs.getD j false) = true := by
        by_cases q : (ys.getD j false == zs.getD j false) = true
        · exact q
        · exact absurd ⟨j, List.mem_range.mpr h1, q⟩ hh
      have := eq_of_beq hj
      simpa [List.getD, h1, h2] using this
def rNeB (K : PySem.W.Frag) : R2 := fun x y H Q => ∃ a b, ∃ ys zs : List Bool, x = .ref a ∧ y = .ref b ∧ SqL K H a (ys.map V.bl) ∧ SqL K H b (zs.map V.bl) ∧ Q (.bl (!decide (ys = zs))) H
theorem op_neB (hu : X.A.units + 64 < cLine) : OpR X (compareOp .NotEq) (rNeB X.K) := by
  rintro pins s σ H x y v u Q I rx ry ⟨a, b, ys, zs, rfl, rfl, h1, h2, q⟩
  cases rx
  cases ry
  obtain ⟨its, r, p, _⟩ := I.list h1
  obtain ⟨its2, r2, p2, _⟩ := I.list h2
  have e1 := bls_at r
  have e2 := bls_at r2
  subst e1 e2
  by_cases e : ys.length = zs.length
  · refine SeqAt.RcNeAt.lists (e := fun j => ys.getD j false == zs.getD j false) p.isList p2.isList (by simp; omega) (by omega) (fun j g1 g2 => ?_) _ _ _ _ ?_
    · have l1 : j < ys.length := by simpa using g1
      have l2 : j < zs.length := by simpa using g2
      simp only [List.getElem_toArray, List.getElem_map]
      rw [show ys.getD j false = ys[j] by simp [List.getD, l1], show zs.getD j false = zs[j] by simp [List.getD, l2]]
      exact SeqAt.EqAt.bool_bool _ _
    · rw [List.size_toArray, List.length_map, all_eqB e]
      exact ⟨.bl _, H, I, rfl, q⟩
  · refine SeqAt.RcNeAt.lists_lengths p.isList p2.isList (by simp; omega) (by omega) _ _ _ _ ?_
    have : decide (ys = zs) = false := decide_eq_false fun z => e (by rw [z])
    rw [this] at q
    exact ⟨.bl _, H, I, rfl, q⟩
def oNeB (x y : D) (S : Sto) : Option (D × Sto) := match x, y with
  | .loc i, .loc j => match S[i]?, S[j]? with
    | some (.lst a), some (.lst b) => (asBls a).bind fun ys => (asBls b).bind fun zs => some (.bl (!decide (ys = zs)), S)
    | _, _ => none
  | _, _ => none
theorem xo_neB (hu : X.A.units + 64 < cLine) : OpD X (compareOp .NotEq) (rNeB X.K) (toR oNeB) := ⟨op_neB hu, fun H m S x y vx vy Q Q' R rx ry ⟨p, h, q⟩ c => by
  unfold oNeB at h
  split at h
  case h_2 => cases h
  rename_i i j
  split at h
  case h_2 => cases h
  rename_i a b ha hb
  simp only [Option.bind_eq_some_iff] at h
  obtain ⟨ys, h1, zs, h2, h3⟩ := h
  cases h3
  obtain ⟨p1, vs1, rfl, _, hH1, d1⟩ := R.lst rx ha
  obtain ⟨p2, vs2, rfl, _, hH2, d2⟩ := R.lst ry hb
  rw [bls_of h1] at d1
  rw [bls_of h2] at d2
  have e1 := d1.of_bls
  have e2 := d2.of_bls
  subst e1 e2
  exact ⟨_, _, ys, zs, rfl, rfl, SqL.of hH1, SqL.of hH2, c.same R q (.bl _)⟩⟩
/-! a bool among bools -/
def rInB (K : PySem.W.Frag) : R2 := fun x y H Q => ∃ (z : Bool) (b : Addr) (ys : List Bool), x = .bl z ∧ y = .ref b ∧ SqL K H b (ys.map V.bl) ∧ Q (.bl (ys.any (· == z))) H
def eBl (z : Bool) : Value → Bool
  | .bool s => s == z
  | _ => false
theorem any_bls (z : Bool) : ∀ ys : List Bool, (ys.map Value.bool).any (eBl z) = ys.any (· == z)
  | [] => rfl
  | y :: r => by simp [any_bls z r, eBl]
theorem op_inB : OpR X (compareOp .In) (rInB X.K) := by
  rintro pins s σ H x y v u Q I rx ry ⟨z, b, ys, rfl, rfl, h, q⟩
  cases (show v = Value.bool z from rx)
  cases ry
  obtain ⟨its, r, p, _⟩ := I.list h
  have e := bls_at r
  subst e
  refine SeqAt.in_listAt (eBl z) p.isList (fun y hy => ?_) ?_
  · have hy' : y ∈ ys.map Value.bool := by simpa using hy
    obtain ⟨b', _, rfl⟩ := List.mem_map.mp hy'
    exact SeqAt.EqAt.bool_bool b' z
  · rw [← Array.any_toList, any_bls]
    exact ⟨.bl _, H, I, rfl, q⟩
def oInB (x y : D) (S : Sto) : Option (D × Sto) := match x, y with
  | .bl z, .loc l => match S[l]? with
    | some (.lst ds) => (asBls ds).map fun ys => (.bl (ys.any (· == z)), S)
    | _ => none
  | _, _ => none
theorem xo_inB : OpD X (compareOp .In) (rInB X.K) (toR oInB) := ⟨op_inB, fun H m S x y vx vy Q Q' R rx ry ⟨p, h, q⟩ c => by
  unfold oInB at h
  split at h
  case h_2 => cases h
  rename_i i l
  split at h
  case h_2 => cases h
  rename_i ds hs
  simp only [Option.map_eq_some_iff] at h
  obtain ⟨ys, h1, rfl⟩ := h
  cases rx
  obtain ⟨p1, vs1, rfl, _, hH1, d1⟩ := R.lst ry hs
  rw [bls_of h1] at d1
  have := d1.of_bls
  subst this
  exact ⟨_, _, ys, rfl, rfl, SqL.of hH1, c.same R q (.bl _)⟩⟩
/-! str of an int -/
def vStrI : List V → Hp → VK → Prop := fun xs H Q => ∃ i, xs = [.int i] ∧ i.natAbs.log2 < 1920 ∧ Q (.str (toString i)) H
def bStrI (xs : List D) (S : Sto) : Option (D × Sto) := match xs with
  | [.int i] => if i.natAbs.log2 < 1920 then some (.str (toString i), S) else none
  | _ => none
theorem xb_strI : CallD X (.type "str") vStrI (toB bStrI) := ⟨call_str_int, fun H m S xs vs Q Q' R rx ⟨p, h, q⟩ c => by
  unfold bStrI at h
  split at h
  case h_2 => cases h
  rename_i i
  split at h
  case isFalse => cases h
  rename_i hi
  cases h
  cases rx with
  | cons r1 r2 =>
    cases r1
    cases r2
    exact ⟨_, rfl, hi, c.same R q (.str _)⟩⟩
end
end DL

set_option Elab.async false
set_option linter.all false
set_option maxRecDepth 100000
set_option maxHeartbeats 1000000
namespace DL
open PySem L2 PyProof.Rows
/-! the classes of errors -/
def tabOf (y z : Str) : Option Bool := if exN.contains z = true then some (tabV y z) else none
theorem exB_ok {K : PySem.W.Frag} {C : Addr} (h : exB K C = true) : ExcC K C := by
  simp only [exB, Bool.and_eq_true, decide_eq_true_eq] at h
  obtain ⟨h1, h2, h3, h4, h5, h6, h7, h8⟩ := h
  exact ⟨h1, h2, h3, h4, h5, h6, h7, h8⟩
structure Fam (K : PySem.W.Frag) (al : List (Str × Addr)) : Prop where
  nm : al.map (·.1) = exN
  ns : (al.all fun q => decide (PySem.W.nsIn K mainGlobals q.1 = some (some (.ref q.2)))) = true
  ex : (al.all fun q => exB K q.2) = true
  own : (al.all fun r => famT K al r.1 (.ref r.2)) = true
  le : famT K al "LookupError" (.type "LookupError") = true
  ve : famT K al "ValueError" (.type "ValueError") = true
structure ErN (mg : Str → Option Value) (al : List (Str × Addr)) (x : Str) (C : Addr) : Prop where
  mgx : mg x = some (.ref C)
  mem : (x, C) ∈ al
section
variable {K : PySem.W.Frag} {al : List (Str × Addr)}
theorem fam_at (F : Fam K al) {z : Str} {C : Addr} (hz : exN.contains z = true) (hC : PySem.W.nsIn K mainGlobals z = some (some (.ref C))) : (z, C) ∈ al := by
  have h1 : z ∈ exN := List.contains_iff_mem.mp hz
  rw [← F.nm] at h1
  obtain ⟨⟨z', C'⟩, hm, rfl⟩ := List.mem_map.mp h1
  have h2 := of_decide_eq_true (List.all_eq_true.mp F.ns _ hm)
  have h3 := h2.symm.trans hC
  cases h3
  exact hm
theorem fam_tab (F : Fam K al) {y : Str} {cv : Value} (h : famT K al y cv = true) (z : Str) (C : Addr) (b : Bool) (hb : tabOf y z = some b) (hC : PySem.W.nsIn K mainGlobals z = some (some (.ref C))) : ExcC K C ∧ PySem.W.kitOne K (.ref C) cv = some b := by
  unfold tabOf at hb
  split at hb
  · rename_i hz
    cases hb
    have hm := fam_at F hz hC
    exact ⟨exB_ok (List.all_eq_true.mp F.ex _ hm), of_decide_eq_true (List.all_eq_true.mp h _ hm)⟩
  · cases hb
theorem fam_is (F : Fam K al) {y : Str} {Cy : Addr} (hy : (y, Cy) ∈ al) : ∀ z C b, tabOf y z = some b → PySem.W.nsIn K mainGlobals z = some (some (.ref C)) → ExcC K C ∧ PySem.W.kitOne K (.ref C) (.ref Cy) = some b :=
  fam_tab F (List.all_eq_true.mp F.own _ hy)
theorem fam_LookupError (F : Fam K al) : ∀ z C b, tabOf "LookupError" z = some b → PySem.W.nsIn K mainGlobals z = some (some (.ref C)) → ExcC K C ∧ PySem.W.kitOne K (.ref C) (.type "LookupError") = some b := fam_tab F F.le
theorem fam_ValueError (F : Fam K al) : ∀ z C b, tabOf "ValueError" z = some b → PySem.W.nsIn K mainGlobals z = some (some (.ref C)) → ExcC K C ∧ PySem.W.kitOne K (.ref C) (.type "ValueError") = some b := fam_tab F F.ve
end
theorem bt_LookupError : bootBuiltins "LookupError" = some (.type "LookupError") := by decide +kernel
theorem bt_ValueError : bootBuiltins "ValueError" = some (.type "ValueError") := by decide +kernel
end DL


set_option Elab.async false
set_option linter.all false
set_option maxRecDepth 100000
set_option maxHeartbeats 1000000
namespace DL
open PySem L2 PyProof.Rows
theorem exK_V {K : PySem.W.Frag} {C : Addr} (h : exKB K C bmV "ValueError.__new__" = true) : ExK K C "ValueError" "ValueError.__new__" "ValueError.__init__" bmV := by
  simp only [exKB, Bool.and_eq_true, decide_eq_true_eq] at h
  obtain ⟨h1, h2, h3, h4, h5⟩ := h
  exact ⟨PySem.F.excBase_ValueError, PySem.F.store_ValueError, h1, h2, h3, h4, exB_ok h5⟩
theorem exK_L {K : PySem.W.Frag} {C : Addr} (h : exKB K C bmL "LookupError.__new__" = true) : ExK K C "LookupError" "LookupError.__new__" "LookupError.__init__" bmL := by
  simp only [exKB, Bool.and_eq_true, decide_eq_true_eq] at h
  obtain ⟨h1, h2, h3, h4, h5⟩ := h
  exact ⟨PySem.F.excBase_LookupError, PySem.F.store_LookupError, h1, h2, h3, h4, exB_ok h5⟩
structure ErF (K : PySem.W.Frag) (mg : Str → Option Value) (x qual f p : Str) (st : Stmt) (C : Addr) : Prop where
  mgx : mg x = some (.ref C)
  ns : PySem.W.nsIn K mainGlobals x = some (some (.ref C))
  hf : PySem.W.findIn K (.ref C) f = some none
  ek : ∃ B newId initId bmB, ExK K C B newId initId bmB
  ini : ∃ fI fd, PySem.W.findIn K (.ref C) "__init__" = some (some (.ref fI)) ∧ PySem.W.typeIn K (.ref fI) = some (.type "function") ∧ Fun K "__init__" qual st fI fd ∧ Binds K fd ["self", p] []
theorem ErF.a {P : Program} {w : World} {K : PySem.W.Frag} {mg : Str → Option Value} {base : Heap} {x qual f p : Str} {st : Stmt} {C : Addr} {q1 q2 q3 q4 : Pos} (E : ErF K mg x qual f p st C)
    (S : FnScope ["self", p] ["self", p] (defScope st)) (hbody : defBody st = [.Assign [.Attribute (.Name "self" q1) f q2] (.Name p q3) q4])
    (v0 : Vis (defScope st) "self") (v1 : Vis (defScope st) p) (d0 : (p == ("__debug__" : Str)) = false) (d1 : (p == ("__classdict__" : Str)) = false)
    (hs : ∀ (X : Cx), X.env.scope = defScope st → swapsWith (.Name p q3) (some (.Attribute (.Name "self" q1) f q2)) q4.line X.env = pure false) : ErA P w K mg base 1 x f C := by
  obtain ⟨B, n, i, bm, T⟩ := E.ek
  obtain ⟨fI, fd, h1, h2, F, hb⟩ := E.ini
  exact ⟨E.mgx, E.ns, T.xc, E.hf, fI, fd, p, B, n, i, bm, T, h1, h2, fn_init F S T E.hf hbody v0 v1 d0 d1 hs, hb⟩
section
variable {K : PySem.W.Frag} {h : Heap} {mg : Str → Option Value} {x qual f p : Str} {st : Stmt} {C fI : Addr} {oc kV dc pm cd ct : Value} {od an : Option Addr} {sl : Array (Option Value)}
theorem erF_V (X : K.In h) (G : h.Ns mainGlobals mg)
    (hb : ∀ (kV doc pm : Value) (an : Option Addr) (cdv ct : Value) (us : List Value), us.length = (["self", p] : List Str).length → bindArgs (PySem.W.fnOf "__init__" qual (defArgs st) (defBody st) (defScope st) Value.none kV doc pm an cdv ct) { pos := us } = pure ((["self", p] : List Str).zip us))
    (a : PySem.W.nsIn K mainGlobals x = some (some (.ref C))) (b : exKB K C bmV "ValueError.__new__" = true) (hf : PySem.W.findIn K (.ref C) f = some none) (i : PySem.W.findIn K (.ref C) "__init__" = some (some (.ref fI))) (t : PySem.W.typeIn K (.ref fI) = some (.type "function"))
    (l : K.lookup fI = some ⟨oc, od, .func (PySem.W.fnOf "__init__" qual (defArgs st) (defBody st) (defScope st) .none kV dc pm an cd ct), sl⟩) (c : PySem.W.codeIn K cd qual = true) (k : PySem.W.keepIn K (.ref fI) = true) : ErF K mg x qual f p st C := by
  have F := fun_mk (st := st) l c k
  exact ⟨PySem.W.mg_of X G a, a, hf, ⟨_, _, _, _, exK_V b⟩, fI, _, i, t, F, F.binds hb⟩
theorem erF_L (X : K.In h) (G : h.Ns mainGlobals mg)
    (hb : ∀ (kV doc pm : Value) (an : Option Addr) (cdv ct : Value) (us : List Value), us.length = (["self", p] : List Str).length → bindArgs (PySem.W.fnOf "__init__" qual (defArgs st) (defBody st) (defScope st) Value.none kV doc pm an cdv ct) { pos := us } = pure ((["self", p] : List Str).zip us))
    (a : PySem.W.nsIn K mainGlobals x = some (some (.ref C))) (b : exKB K C bmL "LookupError.__new__" = true) (hf : PySem.W.findIn K (.ref C) f = some none) (i : PySem.W.findIn K (.ref C) "__init__" = some (some (.ref fI))) (t : PySem.W.typeIn K (.ref fI) = some (.type "function"))
    (l : K.lookup fI = some ⟨oc, od, .func (PySem.W.fnOf "__init__" qual (defArgs st) (defBody st) (defScope st) .none kV dc pm an cd ct), sl⟩) (c : PySem.W.codeIn K cd qual = true) (k : PySem.W.keepIn K (.ref fI) = true) : ErF K mg x qual f p st C := by
  have F := fun_mk (st := st) l c k
  exact ⟨PySem.W.mg_of X G a, a, hf, ⟨_, _, _, _, exK_L b⟩, fI, _, i, t, F, F.binds hb⟩
theorem erB_V (X : K.In h) (G : h.Ns mainGlobals mg) (a : PySem.W.nsIn K mainGlobals x = some (some (.ref C))) (b : exKB K C bmV "ValueError.__new__" = true) (i : PySem.W.findIn K (.ref C) "__init__" = some (some (.builtin "ValueError.__init__"))) : ErB K mg x C :=
  ⟨PySem.W.mg_of X G a, a, (exK_V b).xc, _, _, _, _, exK_V b, i⟩
theorem kc_mk {mc : Value} {n : Int} {t : Tok} (X : K.In h) (G : h.Ns mainGlobals mg) (a : PySem.W.nsIn K mainGlobals x = some (some (.ref C))) (r : PySem.W.readsIn K C mc = true) (g : PySem.W.specialIn K (.ref C) "__getattribute__" = some (some (.builtin "type.__getattribute__")))
    (v : PySem.W.findCls K (.ref C) mc f = some (.val (.int n t))) : Kc K mg x f (V.int n) (.int n) :=
  ⟨⟨C, mc, _, PySem.W.mg_of X G a, ⟨r, g⟩, ⟨v, ⟨_, rfl⟩⟩⟩, fun _ _ => .int n⟩
end
end DL


set_option Elab.async false
set_option linter.all false
set_option maxRecDepth 100000
set_option maxHeartbeats 1000000
namespace DL
open PySem L2 PyProof.Rows
theorem walkU {l : PySem.W.OpenLaw} {k : Nat} {q : Program} {loose : List Str} {XP : (Str → Option Value) → Heap → Prop} {YP : World → Heap → Prop}
    {d : DefRec} {x : Str} (hq : importsNone q = true) (hn : l.most = some 63) (hdf : d.params.defaults = []) (hr : Room k callerA)
    (F : ∀ (w : World) (mg : Str → Option Value) (fa : Addr) (h : Heap), YP w h → h.Ns mainGlobals mg → mg d.name = some (.ref fa) →
      ∃ (K : PySem.W.Frag) (fd : FuncData), K.In h ∧ (∀ (s : Shared) (u : Value), BindsTo s fd ⟨[u], []⟩ [(x, u)]) ∧
      ∀ base : Heap, K.In base → base.Ns mainGlobals mg → HasSys base → FnG l.prog w K mg base CX0 k fa fd [x] (toSp K c_law)) :
    PySem.W.WalkO q loose XP YP l.row.toRowW d [] (fun f vs => PySem.call f vs) := by
  refine Att.attach_call hn hdf ?_
  intro w s₀ s₁ mg mb fa o pm cd doc a vs ns G Y ho hd hcd hmg hobj hints hlen hg
  obtain ⟨K, fd, KX, hb, hF⟩ := F w mg fa _ Y G.T.g hmg
  exact lawS KX G.T.g G.T.b G.T.builtins G.T.nolimit hg hobj hints (Nat.le_trans hlen (by decide)) hr (let ⟨m, h, _⟩ := (G.T.seer hq).mods; ⟨m, h⟩) hF hb
    (fun H hS => ⟨[], [], [.scr ns], fun d _ => d = .bl true, ⟨rfl, .nil, fun i _ _ e _ => by simp at e⟩, .cons (.scr hS) .nil, ⟨ns, rfl, hlen, fun _ => rfl⟩, fun d S' v H' m' e _ _ _ r => by cases e; cases r; rfl⟩) (fun _ _ _ z => z)
/-! the facts, as one Bool -/
theorem fam_of {K : PySem.W.Frag} (h : famB K = true) : Fam K (alK K) := by
  simp only [famB, Bool.and_eq_true] at h
  obtain ⟨h1, h2, h3, h4, h5⟩ := h
  exact ⟨by unfold alK; rw [List.map_map]; rfl, h1, h2, h3, h4, h5⟩
theorem alK_mem {K : PySem.W.Frag} {x : Str} (h : x ∈ exN) : (x, He.ga K x) ∈ alK K := List.mem_map.mpr ⟨x, h, rfl⟩
theorem fam_ns {K : PySem.W.Frag} (h : famB K = true) {x : Str} (hx : x ∈ exN) : PySem.W.nsIn K mainGlobals x = some (some (.ref (He.ga K x))) :=
  of_decide_eq_true (List.all_eq_true.mp (fam_of h).ns _ (alK_mem hx))
section
variable {K : PySem.W.Frag} {h : Heap} {mg : Str → Option Value}
theorem kc_of (X : K.In h) (G : h.Ns mainGlobals mg) {x f : Str} {n : Int} (e : kcB K x f n = true) : Kc K mg x f (V.int n) (.int n) := by
  simp only [kcB, Bool.and_eq_true, decide_eq_true_eq] at e
  obtain ⟨h1, h2, h3, h4⟩ := e
  split at h4
  · rename_i m t hv
    have := of_decide_eq_true h4
    subst this
    exact kc_mk X G h1 h2 h3 hv
  · cases h4
theorem erB_of (X : K.In h) (G : h.Ns mainGlobals mg) (F : famB K = true) {x : Str} (hx : x ∈ exN) (e : noB K x = true) : ∃ C, ErB K mg x C ∧ ((x, C) : Str × Addr) ∈ alK K := by
  simp only [noB, Bool.and_eq_true, decide_eq_true_eq] at e
  exact ⟨_, erB_V X G (fam_ns F hx) e.1 e.2, alK_mem hx⟩
theorem erV_of (X : K.In h) (G : h.Ns mainGlobals mg) (F : famB K = true) {x f p qual : Str} {st : Stmt} (hx : x ∈ exN) (e : iniB K bmV "ValueError.__new__" (x, f) = true)
    (hb : ∀ (kV doc pm : Value) (an : Option Addr) (cdv ct : Value) (us : List Value), us.length = (["self", p] : List Str).length → bindArgs (PySem.W.fnOf "__init__" qual (defArgs st) (defBody st) (defScope st) Value.none kV doc pm an cdv ct) { pos := us } = pure ((["self", p] : List Str).zip us))
    (d : ∃ oc od osl kV doc pm an cdv ct, K.lookup (He.fAd K (x, some "__init__")) = some ⟨oc, od, .func (PySem.W.fnOf "__init__" qual (defArgs st) (defBody st) (defScope st) .none kV doc pm an cdv ct), osl⟩ ∧ PySem.W.codeIn K cdv qual = true) :
    ∃ C, ErF K mg x qual f p st C ∧ ((x, C) : Str × Addr) ∈ alK K := by
  simp only [iniB, Bool.and_eq_true, decide_eq_true_eq] at e
  obtain ⟨oc, od, osl, kV, doc, pm, an, cdv, ct, l, c⟩ := d
  exact ⟨_, erF_V X G hb (fam_ns F hx) e.1 e.2.1 e.2.2.1 e.2.2.2.1 l c e.2.2.2.2, alK_mem hx⟩
theorem erL_of (X : K.In h) (G : h.Ns mainGlobals mg) (F : famB K = true) {x f p qual : Str} {st : Stmt} (hx : x ∈ exN) (e : iniB K bmL "LookupError.__new__" (x, f) = true)
    (hb : ∀ (kV doc pm : Value) (an : Option Addr) (cdv ct : Value) (us : List Value), us.length = (["self", p] : List Str).length → bindArgs (PySem.W.fnOf "__init__" qual (defArgs st) (defBody st) (defScope st) Value.none kV doc pm an cdv ct) { pos := us } = pure ((["self", p] : List Str).zip us))
    (d : ∃ oc od osl kV doc pm an cdv ct, K.lookup (He.fAd K (x, some "__init__")) = some ⟨oc, od, .func (PySem.W.fnOf "__init__" qual (defArgs st) (defBody st) (defScope st) .none kV doc pm an cdv ct), osl⟩ ∧ PySem.W.codeIn K cdv qual = true) :
    ∃ C, ErF K mg x qual f p st C ∧ ((x, C) : Str × Addr) ∈ alK K := by
  simp only [iniB, Bool.and_eq_true, decide_eq_true_eq] at e
  obtain ⟨oc, od, osl, kV, doc, pm, an, cdv, ct, l, c⟩ := d
  exact ⟨_, erF_L X G hb (fam_ns F hx) e.1 e.2.1 e.2.2.1 e.2.2.2.1 l c e.2.2.2.2, alK_mem hx⟩
theorem dfn_of (X : K.In h) (G : h.Ns mainGlobals mg) {x : Str} {st : Stmt} {ps : List Str}
    (hb : ∀ (kV doc pm : Value) (an : Option Addr) (cdv ct : Value) (us : List Value), us.length = ps.length → bindArgs (PySem.W.fnOf x x (defArgs st) (defBody st) (defScope st) Value.none kV doc pm an cdv ct) { pos := us } = pure (ps.zip us))
    (a : (He.Fa.glo x).ok K = true) (k : (He.Fa.keep x).ok K = true)
    (d : ∃ oc od osl kV doc pm an cdv ct, K.lookup (He.fAd K (x, none)) = some ⟨oc, od, .func (PySem.W.fnOf x x (defArgs st) (defBody st) (defScope st) .none kV doc pm an cdv ct), osl⟩ ∧ PySem.W.codeIn K cdv x = true) : Dfn K mg x st ps := by
  obtain ⟨oc, od, osl, kV, doc, pm, an, cdv, ct, l, c⟩ := d
  exact dfn_mk X G hb (He.eqO_ok a) l c k
theorem int_of (X : K.In h) (G : h.Ns mainGlobals mg) {x : Str} {i : Int} (c : (He.Fa.int x i).ok K = true) : GlD K mg x (.int i) (.int i) := by
  obtain ⟨t, e⟩ := He.int_ok X G c
  exact ⟨⟨_, e, ⟨_, rfl⟩⟩, fun _ _ => .int i⟩
end
end DL


set_option Elab.async false
set_option linter.all false
set_option maxRecDepth 100000
set_option maxHeartbeats 4000000
namespace K00
open PySem L2 DL PyProof.Rows
section
variable {P : Program} {w : World} {K : PySem.W.Frag} {mg : Str → Option Value} {base : Heap}
abbrev k_MAX_COMPARINGS : D := .int 2
abbrev k_MAX_NEST : D := .int 3
abbrev k_MAX_PERIOD : D := .int 1000000
abbrev k_MAX_EDITS : D := .int 60
abbrev k_BATCH : D := .int 20
abbrev k_MAX_NAME : D := .int 8
abbrev k_MAX_TIMES : D := .int 8
abbrev k_MAX_DEEP : D := .int 3
abbrev k_MAX_NOTS : D := .int 2
abbrev k_MAX_BY : D := .int 6
abbrev k_MAX_PLACES : D := .int 24
abbrev k_MAX_WEIGHT : D := .int 30
abbrev k_MAX_CHOICES : D := .int 4
abbrev k_MAX_RESTS : D := .int 2
/-- the built-in names are not bound by the module -/
structure Blt (mg : Str → Option Value) : Prop where
  LookupError : mg "LookupError" = none
  ValueError : mg "ValueError" = none
  abs : mg "abs" = none
  int : mg "int" = none
  isinstance : mg "isinstance" = none
  len : mg "len" = none
  range : mg "range" = none
  repr : mg "repr" = none
  str : mg "str" = none
/-- the constants of the module -/
structure Cst (K : PySem.W.Frag) (mg : Str → Option Value) : Prop where
  MAX_COMPARINGS : GlD K mg "MAX_COMPARINGS" (V.int 2) k_MAX_COMPARINGS
  MAX_NEST : GlD K mg "MAX_NEST" (V.int 3) k_MAX_NEST
  MAX_PERIOD : GlD K mg "MAX_PERIOD" (V.int 1000000) k_MAX_PERIOD
  MAX_EDITS : GlD K mg "MAX_EDITS" (V.int 60) k_MAX_EDITS
  BATCH : GlD K mg "BATCH" (V.int 20) k_BATCH
  MAX_NAME : GlD K mg "MAX_NAME" (V.int 8) k_MAX_NAME
  MAX_TIMES : GlD K mg "MAX_TIMES" (V.int 8) k_MAX_TIMES
  MAX_DEEP : GlD K mg "MAX_DEEP" (V.int 3) k_MAX_DEEP
  MAX_NOTS : GlD K mg "MAX_NOTS" (V.int 2) k_MAX_NOTS
  MAX_BY : GlD K mg "MAX_BY" (V.int 6) k_MAX_BY
  MAX_PLACES : GlD K mg "MAX_PLACES" (V.int 24) k_MAX_PLACES
  MAX_WEIGHT : GlD K mg "MAX_WEIGHT" (V.int 30) k_MAX_WEIGHT
  MAX_CHOICES : GlD K mg "MAX_CHOICES" (V.int 4) k_MAX_CHOICES
  MAX_RESTS : GlD K mg "MAX_RESTS" (V.int 2) k_MAX_RESTS
/-- constants of classes -/
structure Kcs (K : PySem.W.Frag) (mg : Str → Option Value) : Prop where
  Bench : Kc K mg "Bench" "MOST_EDITS" (V.int 60) (.int 60)
  WonBench : Kc K mg "WonBench" "MOST_EDITS" (V.int 60) (.int 60)
/-! _law_deck -/
abbrev N__law_deck : List Str := ["_law_script", "_law_cell"]
theorem sc__law_deck : FnScope N__law_deck ["_law_script"] (defScope st__law_deck) := ⟨rfl, rfl, rfl, by decide +kernel, rfl, by decide +kernel, by decide +kernel⟩
theorem ok__law_deck {k : Nat} {f : Addr} {fd : FuncData} (F : Fun K "_law_deck" "_law_deck" st__law_deck f fd) (hm : mg "_law_deck" = some (.ref f)) (hb : Binds K fd ["_law_script"] []) (B : Blt mg) :
    DefD P w K mg base (k + 1) "_law_deck" 1 (toC (fDef 1 2 PG.b__law_deck)) := by
  exact defF F sc__law_deck hm hb rfl rfl (fun cdv A outer s H E hg hr => ⟨_, (xs_one (xs_ret (x_lst (xa_cons (x_lc rfl sc__law_deck.nd (tt := tYes) (t := fYes) (te := (tCB vAbs (tCons (tVar 1) tNil))) (f := (fCB bAbs (fCons (fVar 1) fNil))) (xi_any (x_slice (xv 0) xp_none (xp_some x_int))) (blkOk_by (N := N__law_deck) (sc := defScope st__law_deck) (by decide +kernel)) (fun _ _ _ _ _ => pg_name (i := 1) sc__law_deck.nd rfl (Or.inl rfl)) (fun _ _ _ _ _ => xts_nil) (fun _ _ _ _ _ => (x_callB xb_abs rfl B.abs bt_abs (xa_cons (xv 1) xa_nil))) (s0 := s)) (xa_cons x_int xa_nil)))))⟩)
/-! _law_draw -/
abbrev N__law_draw : List Str := ["_law_deck_here", "_law_many", "_law_cell", "_law_at", "_law_mixed"]
theorem sc__law_draw : FnScope N__law_draw ["_law_deck_here", "_law_many"] (defScope st__law_draw) := ⟨rfl, rfl, rfl, by decide +kernel, rfl, by decide +kernel, by decide +kernel⟩
theorem ok__law_draw {k : Nat} {f : Addr} {fd : FuncData} (F : Fun K "_law_draw" "_law_draw" st__law_draw f fd) (hm : mg "_law_draw" = some (.ref f)) (hb : Binds K fd ["_law_deck_here", "_law_many"] []) (B : Blt mg) :
    DefD P w K mg base (k + 1) "_law_draw" 2 (toC (fDef 2 5 PG.b__law_draw)) := by
  exact defF F sc__law_draw hm hb rfl rfl (fun cdv A outer s H E hg hr => ⟨_, (xs_cons (xs_asg (x_op xo_add (x_ix (xv 0) x_int (fun _ _ => rfl)) x_int) (xg_sub (xv 0) x_int)) (xs_cons (xs_asg (x_tup (xa_cons x_int (xa_cons (x_neg x_int) xa_nil))) (xg_two rfl (xg_name (i := 2) sc__law_draw.nd rfl (.inl rfl) (.inl rfl)) (xg_name (i := 3) sc__law_draw.nd rfl (.inl rfl) (.inl rfl)))) (xs_cons (xs_if (xt_cmp xo_gt (x_callB xb_len rfl B.len bt_len (xa_cons (x_ix (xv 0) x_int (fun _ _ => rfl)) xa_nil)) x_int (nomark _)) (xs_cons (xs_set (i := 3) sc__law_draw.nd rfl (.inl rfl) (.inl rfl) (x_op xo_mod (x_callTy xb_int rfl B.int bt_int (xa_cons (x_ix (xv 0) x_int (fun _ _ => rfl)) xa_nil)) (x_callB xb_len rfl B.len bt_len (xa_cons (x_ix (xv 0) x_int (fun _ _ => rfl)) xa_nil)))) (xs_one (xs_set (i := 2) sc__law_draw.nd rfl (.inl rfl) (.inl rfl) (x_ix (x_ix (xv 0) x_int (fun _ _ => rfl)) (xv 3) (fun _ _ => rfl))))) xs_nil) (xs_cons (xs_if (xt_cmp xo_ge (xv 2) (x_op xo_pow x_int x_int) (nomark _)) (xs_cons (xs_asg (x_op xo_fdiv (x_callTy xb_int rfl B.int bt_int (xa_cons (xv 2) xa_nil)) (xv 1)) (xg_sub (x_ix (xv 0) x_int (fun _ _ => rfl)) (xv 3))) (xs_one (xs_ret (x_op xo_mod (x_callTy xb_int rfl B.int bt_int (xa_cons (xv 2) xa_nil)) (xv 1))))) xs_nil) (xs_cons (xs_set (i := 4) sc__law_draw.nd rfl (.inl rfl) (.inl rfl) (x_op xo_add (x_op xo_add (x_op xo_mod (x_callTy xb_int rfl B.int bt_int (xa_cons (xv 2) xa_nil)) x_int) (x_op xo_mul x_int (x_ix (xv 0) x_int (fun _ _ => rfl)))) x_int)) (xs_one (xs_ret (x_op xo_mod (x_callTy xb_int rfl B.int bt_int (xa_cons (x_op xo_mod (x_callTy xb_int rfl B.int bt_int (xa_cons (x_op xo_pow (xv 4) x_int) xa_nil)) x_int) xa_nil)) (xv 1)))))))))⟩)
/-! _law_one -/
abbrev N__law_one : List Str := ["_law_deck_here", "_law_items"]
theorem sc__law_one : FnScope N__law_one ["_law_deck_here", "_law_items"] (defScope st__law_one) := ⟨rfl, rfl, rfl, by decide +kernel, rfl, by decide +kernel, by decide +kernel⟩
theorem ok__law_one {k : Nat} {f : Addr} {fd : FuncData} (F : Fun K "_law_one" "_law_one" st__law_one f fd) (hm : mg "_law_one" = some (.ref f)) (hb : Binds K fd ["_law_deck_here", "_law_items"] []) (B : Blt mg) {f__law_draw : Fn} (F__law_draw : DefD P w K mg base k "_law_draw" 2 (toC f__law_draw)) :
    DefD P w K mg base (k + 1) "_law_one" 2 (toC (fDef 2 2 (PG.b__law_one f__law_draw))) := by
  exact defF F sc__law_one hm hb rfl rfl (fun cdv A outer s H E hg hr => ⟨_, (xs_one (xs_ret (x_ix (xv 1) (x_call F__law_draw (by exact hg) (by exact hr) rfl (xa_cons (xv 0) (xa_cons (x_callB xb_len rfl B.len bt_len (xa_cons (xv 1) xa_nil)) xa_nil))) (fun _ _ => rfl))))⟩)
/-! _law_value -/
noncomputable def b__law_value (c0 : Fn) (c1 : Fn) : FS :=
    (fsSeq (fsAsg (fOp (oI0 fun i j => .int (i - j)) (fCall c1 (fCons (fVar 0) (fCons (fOp (oI CPow fun i j => .int (i ^ j.toNat)) (fC (.int 10)) (fC (.int 9))) fNil))) (fOp oMul (fC (.int 5)) (fOp (oI CPow fun i j => .int (i ^ j.toNat)) (fC (.int 10)) (fC (.int 8))))) (fgName 1))
    (fsSeq (fsAsg (fLst (fCons (fC .non) (fCons (fC (.bl true)) (fCons (fC (.bl false)) (fCons (fC (.int 0)) (fCons (fC (.int 1)) (fCons (fVar 1) (fCons (fCB bStrI (fCons (fVar 1) fNil)) (fCons (fC (.str "")) (fCons (fTup fNil) (fCons (fTup (fCons (fVar 1) fNil)) (fCons (fLst (fCons (fVar 1) fNil)) (fCons (fTup (fCons (fC .non) (fCons (fC (.str "places")) fNil))) (fCons (fTup (fCons (fTup (fCons (fC (.int 1)) fNil)) (fCons (fC (.bl true)) fNil))) (fCons fNewD fNil))))))))))))))) (fgName 2))
    (fsRet (fCall c0 (fCons (fVar 0) (fCons (fOp oAdd (fVar 2) (fLst (fCons (fDisp ["a"] (fCons (fVar 1) fNil)) (fCons (fTup (fCons (fC (.str "pay")) (fCons (fC (.str "n")) fNil))) (fCons (fTup (fCons (fTup (fCons (fC (.int 0)) (fCons (fC (.int 1)) fNil))) (fCons (fTup (fCons (fC (.int 1)) (fCons (fVar 1) fNil))) fNil))) fNil))))) fNil))))))
abbrev N__law_value : List Str := ["_law_deck_here", "_law_many", "_law_values"]
theorem sc__law_value : FnScope N__law_value ["_law_deck_here"] (defScope st__law_value) := ⟨rfl, rfl, rfl, by decide +kernel, rfl, by decide +kernel, by decide +kernel⟩
theorem ok__law_value {k : Nat} {f : Addr} {fd : FuncData} (F : Fun K "_law_value" "_law_value" st__law_value f fd) (hm : mg "_law_value" = some (.ref f)) (hb : Binds K fd ["_law_deck_here"] []) (B : Blt mg) {f__law_one : Fn} (F__law_one : DefD P w K mg base k "_law_one" 2 (toC f__law_one)) {f__law_draw : Fn} (F__law_draw : DefD P w K mg base k "_law_draw" 2 (toC f__law_draw)) :
    DefD P w K mg base (k + 1) "_law_value" 1 (toC (fDef 1 3 (K00.b__law_value f__law_one f__law_draw))) := by
  exact defF F sc__law_value hm hb rfl rfl (fun cdv A outer s H E hg hr => ⟨_, (xs_cons (xs_set (i := 1) sc__law_value.nd rfl (.inl rfl) (.inl rfl) (x_op xo_sub (x_call F__law_draw (by exact hg) (by exact hr) rfl (xa_cons (xv 0) (xa_cons (x_op xo_pow x_int x_int) xa_nil))) (x_op xo_mul x_int (x_op xo_pow x_int x_int)))) (xs_cons (xs_set (i := 2) sc__law_value.nd rfl (.inl rfl) (.inl rfl) (x_lst (xa_cons x_non (xa_cons x_bl (xa_cons x_bl (xa_cons x_int (xa_cons x_int (xa_cons (xv 1) (xa_cons (x_callTy xb_strI rfl B.str bt_str (xa_cons (xv 1) xa_nil)) (xa_cons x_str (xa_cons (x_tup xa_nil) (xa_cons (x_tup (xa_cons (xv 1) xa_nil)) (xa_cons (x_lst (xa_cons (xv 1) xa_nil)) (xa_cons (x_tup (xa_cons x_non (xa_cons x_str xa_nil))) (xa_cons (x_tup (xa_cons (x_tup (xa_cons x_int xa_nil)) (xa_cons x_bl xa_nil))) (xa_cons x_newD xa_nil)))))))))))))))) (xs_one (xs_ret (x_call F__law_one (by exact hg) (by exact hr) rfl (xa_cons (xv 0) (xa_cons (x_op xo_add (xv 2) (x_lst (xa_cons (x_disp (ks := ["a"]) (xpp_cons (xv 1) xpp_nil) rfl rfl (fun h => nomatch h) (Nat.le_of_ble_eq_true rfl) (Nat.le_of_ble_eq_true rfl) (by decide +kernel)) (xa_cons (x_tup (xa_cons x_str (xa_cons x_str xa_nil))) (xa_cons (x_tup (xa_cons (x_tup (xa_cons x_int (xa_cons x_int xa_nil))) (xa_cons (x_tup (xa_cons x_int (xa_cons (xv 1) xa_nil))) xa_nil))) xa_nil))))) xa_nil)))))))⟩)
/-! _law_kinds -/
noncomputable def b__law_kinds : FS :=
    (fsSeq (fsAsg (fLst (fCons (fIsE (tabOf "BadText") (fVar 0)) (fCons (fIsE (tabOf "BadProgram") (fVar 0)) (fCons (fIsE (tabOf "BadGift") (fVar 0)) (fCons (fIsE (tabOf "BadNumber") (fVar 0)) fNil))))) (fgName 1))
    (fsSeq (fsAsg (fOp oAdd (fVar 1) (fLst (fCons (fIsE (tabOf "BadTurns") (fVar 0)) (fCons (fIsE (tabOf "BadRows") (fVar 0)) (fCons (fIsE (tabOf "NotParted") (fVar 0)) fNil))))) (fgName 1))
    (fsSeq (fsAsg (fOp oAdd (fVar 1) (fLst (fCons (fIsE (tabOf "NotTheirs") (fVar 0)) (fCons (fIsE (tabOf "IsGiven") (fVar 0)) (fCons (fIsE (tabOf "NotGiven") (fVar 0)) (fCons (fIsE (tabOf "NoGift") (fVar 0)) fNil)))))) (fgName 1))
    (fsSeq (fsAsg (fOp oAdd (fVar 1) (fLst (fCons (fIsE (tabOf "Lost") (fVar 0)) (fCons (fIsE (tabOf "Busy") (fVar 0)) (fCons (fIsE (tabOf "TooManyEdits") (fVar 0)) fNil))))) (fgName 1))
    (fsSeq (fsAsg (fOp oAdd (fVar 1) (fLst (fCons (fIsE (tabOf "NothingToUndo") (fVar 0)) (fCons (fIsE (tabOf "NothingToRedo") (fVar 0)) (fCons (fIsE (tabOf "BadEdits") (fVar 0)) fNil))))) (fgName 1))
    (fsRet (fOp oAdd (fVar 1) (fLst (fCons (fIsE (tabOf "BadEdit") (fVar 0)) (fCons (fIsE (tabOf "Rejected") (fVar 0)) fNil))))))))))
abbrev N__law_kinds : List Str := ["_law_e", "_law_found"]
theorem sc__law_kinds : FnScope N__law_kinds ["_law_e"] (defScope st__law_kinds) := ⟨rfl, rfl, rfl, by decide +kernel, rfl, by decide +kernel, by decide +kernel⟩
theorem ok__law_kinds {k : Nat} {f : Addr} {fd : FuncData} (F : Fun K "_law_kinds" "_law_kinds" st__law_kinds f fd) (hm : mg "_law_kinds" = some (.ref f)) (hb : Binds K fd ["_law_e"] []) (B : Blt mg) {al : List (Str × Addr)} (FM : Fam K al) {B_BadEdit : Addr} (U_BadEdit : ErN mg al "BadEdit" B_BadEdit) {B_Rejected : Addr} (U_Rejected : ErN mg al "Rejected" B_Rejected) {B_NothingToUndo : Addr} (U_NothingToUndo : ErN mg al "NothingToUndo" B_NothingToUndo) {B_NothingToRedo : Addr} (U_NothingToRedo : ErN mg al "NothingToRedo" B_NothingToRedo) {B_BadEdits : Addr} (U_BadEdits : ErN mg al "BadEdits" B_BadEdits) {B_Lost : Addr} (U_Lost : ErN mg al "Lost" B_Lost) {B_Busy : Addr} (U_Busy : ErN mg al "Busy" B_Busy) {B_TooManyEdits : Addr} (U_TooManyEdits : ErN mg al "TooManyEdits" B_TooManyEdits) {B_NotTheirs : Addr} (U_NotTheirs : ErN mg al "NotTheirs" B_NotTheirs) {B_IsGiven : Addr} (U_IsGiven : ErN mg al "IsGiven" B_IsGiven) {B_NotGiven : Addr} (U_NotGiven : ErN mg al "NotGiven" B_NotGiven) {B_NoGift : Addr} (U_NoGift : ErN mg al "NoGift" B_NoGift) {B_BadTurns : Addr} (U_BadTurns : ErN mg al "BadTurns" B_BadTurns) {B_BadRows : Addr} (U_BadRows : ErN mg al "BadRows" B_BadRows) {B_NotParted : Addr} (U_NotParted : ErN mg al "NotParted" B_NotParted) {B_BadText : Addr} (U_BadText : ErN mg al "BadText" B_BadText) {B_BadProgram : Addr} (U_BadProgram : ErN mg al "BadProgram" B_BadProgram) {B_BadGift : Addr} (U_BadGift : ErN mg al "BadGift" B_BadGift) {B_BadNumber : Addr} (U_BadNumber : ErN mg al "BadNumber" B_BadNumber) :
    DefD P w K mg base (k + 1) "_law_kinds" 1 (toC (fDef 1 2 K00.b__law_kinds)) := by
  exact defF F sc__law_kinds hm hb rfl rfl (fun cdv A outer s H E hg hr => ⟨_, (xs_cons (xs_set (i := 1) sc__law_kinds.nd rfl (.inl rfl) (.inl rfl) (x_lst (xa_cons (x_isE (cV := .ref B_BadText) (cv := .ref B_BadText) rfl B.isinstance bt_isinstance (xv 0) (pe_glob rfl (U_BadText.mgx) rfl) (fun _ h => h) (fam_is FM U_BadText.mem)) (xa_cons (x_isE (cV := .ref B_BadProgram) (cv := .ref B_BadProgram) rfl B.isinstance bt_isinstance (xv 0) (pe_glob rfl (U_BadProgram.mgx) rfl) (fun _ h => h) (fam_is FM U_BadProgram.mem)) (xa_cons (x_isE (cV := .ref B_BadGift) (cv := .ref B_BadGift) rfl B.isinstance bt_isinstance (xv 0) (pe_glob rfl (U_BadGift.mgx) rfl) (fun _ h => h) (fam_is FM U_BadGift.mem)) (xa_cons (x_isE (cV := .ref B_BadNumber) (cv := .ref B_BadNumber) rfl B.isinstance bt_isinstance (xv 0) (pe_glob rfl (U_BadNumber.mgx) rfl) (fun _ h => h) (fam_is FM U_BadNumber.mem)) xa_nil)))))) (xs_cons (xs_set (i := 1) sc__law_kinds.nd rfl (.inl rfl) (.inl rfl) (x_op xo_add (xv 1) (x_lst (xa_cons (x_isE (cV := .ref B_BadTurns) (cv := .ref B_BadTurns) rfl B.isinstance bt_isinstance (xv 0) (pe_glob rfl (U_BadTurns.mgx) rfl) (fun _ h => h) (fam_is FM U_BadTurns.mem)) (xa_cons (x_isE (cV := .ref B_BadRows) (cv := .ref B_BadRows) rfl B.isinstance bt_isinstance (xv 0) (pe_glob rfl (U_BadRows.mgx) rfl) (fun _ h => h) (fam_is FM U_BadRows.mem)) (xa_cons (x_isE (cV := .ref B_NotParted) (cv := .ref B_NotParted) rfl B.isinstance bt_isinstance (xv 0) (pe_glob rfl (U_NotParted.mgx) rfl) (fun _ h => h) (fam_is FM U_NotParted.mem)) xa_nil)))))) (xs_cons (xs_set (i := 1) sc__law_kinds.nd rfl (.inl rfl) (.inl rfl) (x_op xo_add (xv 1) (x_lst (xa_cons (x_isE (cV := .ref B_NotTheirs) (cv := .ref B_NotTheirs) rfl B.isinstance bt_isinstance (xv 0) (pe_glob rfl (U_NotTheirs.mgx) rfl) (fun _ h => h) (fam_is FM U_NotTheirs.mem)) (xa_cons (x_isE (cV := .ref B_IsGiven) (cv := .ref B_IsGiven) rfl B.isinstance bt_isinstance (xv 0) (pe_glob rfl (U_IsGiven.mgx) rfl) (fun _ h => h) (fam_is FM U_IsGiven.mem)) (xa_cons (x_isE (cV := .ref B_NotGiven) (cv := .ref B_NotGiven) rfl B.isinstance bt_isinstance (xv 0) (pe_glob rfl (U_NotGiven.mgx) rfl) (fun _ h => h) (fam_is FM U_NotGiven.mem)) (xa_cons (x_isE (cV := .ref B_NoGift) (cv := .ref B_NoGift) rfl B.isinstance bt_isinstance (xv 0) (pe_glob rfl (U_NoGift.mgx) rfl) (fun _ h => h) (fam_is FM U_NoGift.mem)) xa_nil))))))) (xs_cons (xs_set (i := 1) sc__law_kinds.nd rfl (.inl rfl) (.inl rfl) (x_op xo_add (xv 1) (x_lst (xa_cons (x_isE (cV := .ref B_Lost) (cv := .ref B_Lost) rfl B.isinstance bt_isinstance (xv 0) (pe_glob rfl (U_Lost.mgx) rfl) (fun _ h => h) (fam_is FM U_Lost.mem)) (xa_cons (x_isE (cV := .ref B_Busy) (cv := .ref B_Busy) rfl B.isinstance bt_isinstance (xv 0) (pe_glob rfl (U_Busy.mgx) rfl) (fun _ h => h) (fam_is FM U_Busy.mem)) (xa_cons (x_isE (cV := .ref B_TooManyEdits) (cv := .ref B_TooManyEdits) rfl B.isinstance bt_isinstance (xv 0) (pe_glob rfl (U_TooManyEdits.mgx) rfl) (fun _ h => h) (fam_is FM U_TooManyEdits.mem)) xa_nil)))))) (xs_cons (xs_set (i := 1) sc__law_kinds.nd rfl (.inl rfl) (.inl rfl) (x_op xo_add (xv 1) (x_lst (xa_cons (x_isE (cV := .ref B_NothingToUndo) (cv := .ref B_NothingToUndo) rfl B.isinstance bt_isinstance (xv 0) (pe_glob rfl (U_NothingToUndo.mgx) rfl) (fun _ h => h) (fam_is FM U_NothingToUndo.mem)) (xa_cons (x_isE (cV := .ref B_NothingToRedo) (cv := .ref B_NothingToRedo) rfl B.isinstance bt_isinstance (xv 0) (pe_glob rfl (U_NothingToRedo.mgx) rfl) (fun _ h => h) (fam_is FM U_NothingToRedo.mem)) (xa_cons (x_isE (cV := .ref B_BadEdits) (cv := .ref B_BadEdits) rfl B.isinstance bt_isinstance (xv 0) (pe_glob rfl (U_BadEdits.mgx) rfl) (fun _ h => h) (fam_is FM U_BadEdits.mem)) xa_nil)))))) (xs_one (xs_ret (x_op xo_add (xv 1) (x_lst (xa_cons (x_isE (cV := .ref B_BadEdit) (cv := .ref B_BadEdit) rfl B.isinstance bt_isinstance (xv 0) (pe_glob rfl (U_BadEdit.mgx) rfl) (fun _ h => h) (fam_is FM U_BadEdit.mem)) (xa_cons (x_isE (cV := .ref B_Rejected) (cv := .ref B_Rejected) rfl B.isinstance bt_isinstance (xv 0) (pe_glob rfl (U_Rejected.mgx) rfl) (fun _ h => h) (fam_is FM U_Rejected.mem)) xa_nil)))))))))))⟩)
/-! _law_kinds_right -/
noncomputable def b__law_kinds_right (c0 : Fn) : FS :=
    (fsSeq (fsAsg (fLst (fCons (fMkE "BadText" "line" (fVar 0)) (fCons (fMkE "BadProgram" "error" (fVar 0)) (fCons (fMkE "BadGift" "value" (fVar 0)) (fCons (fMkE "BadNumber" "number" (fVar 0)) (fCons (fMkE "BadTurns" "turns" (fVar 0)) (fCons (fMkE "BadRows" "index" (fVar 0)) (fCons (fMk0 "NotParted") (fCons (fMkE "NotTheirs" "place" (fVar 0)) fNil))))))))) (fgName 1))
    (fsSeq (fsAsg (fOp oAdd (fVar 1) (fLst (fCons (fMkE "IsGiven" "place" (fVar 0)) (fCons (fMkE "NotGiven" "place" (fVar 0)) (fCons (fMk0 "NoGift") (fCons (fMkE "Lost" "number" (fVar 0)) (fCons (fMk0 "Busy") (fCons (fMk0 "TooManyEdits") (fCons (fMk0 "NothingToUndo") fNil))))))))) (fgName 1))
    (fsSeq (fsAsg (fOp oAdd (fVar 1) (fLst (fCons (fMk0 "NothingToRedo") (fCons (fMk0 "BadEdits") (fCons (fMkE "BadEdit" "index" (fVar 0)) (fCons (fMkE "Rejected" "index" (fVar 0)) fNil)))))) (fgName 1))
    (fsSeq (fsFor (fiRng1 (fCons (fC (.int 19)) fNil)) (fgName 2) (fsSeq (fsIf (fOr (fTest (fOp oNeB (fCall c0 (fCons (fOp oIx (fVar 1) (fVar 2)) fNil)) (fLc (fiRng1 (fCons (fC (.int 19)) fNil)) 4 fYes (fOp (oEq id) (fVar 4) (fVar 2))))) (fTest (fIsE (tabOf "LookupError") (fOp oIx (fVar 1) (fVar 2))))) (fsRet (fC (.bl false))) fsNext)
    (fsIf (fOr (fNot (fTest (fIsE (tabOf "PlayError") (fOp oIx (fVar 1) (fVar 2))))) (fNot (fTest (fIsE (tabOf "ValueError") (fOp oIx (fVar 1) (fVar 2)))))) (fsRet (fC (.bl false))) fsNext)))
    (fsSeq (fsFor (fiAny (fLst (fCons (fMkE "NoPlace" "place" (fVar 0)) (fCons (fMkE "NoVersion" "version" (fVar 0)) (fCons (fMk0 "PlayError") fNil))))) (fgName 3) (fsIf (fTest (fOp oInB (fC (.bl true)) (fCall c0 (fCons (fVar 3) fNil)))) (fsRet (fC (.bl false))) fsNext))
    (fsSeq (fsFor (fiAny (fLst (fCons (fMkE "NoPlace" "place" (fVar 0)) (fCons (fMkE "NoVersion" "version" (fVar 0)) fNil)))) (fgName 3) (fsIf (fOr (fNot (fTest (fIsE (tabOf "LookupError") (fVar 3)))) (fOr (fTest (fIsE (tabOf "ValueError") (fVar 3))) (fTest (fIsE (tabOf "PlayError") (fVar 3))))) (fsRet (fC (.bl false))) fsNext))
    (fsSeq (fsIf (fOr (fTest (fIsE (tabOf "LookupError") (fMk0 "PlayError"))) (fNot (fTest (fIsE (tabOf "ValueError") (fMk0 "PlayError"))))) (fsRet (fC (.bl false))) fsNext)
    (fsRet (fAndV (fNotV (fIsE (tabOf "NoVersion") (fMkE "NoPlace" "place" (fVar 0)))) (fNotV (fIsE (tabOf "NoPlace") (fMkE "NoVersion" "version" (fVar 0)))))))))))))
abbrev N__law_kinds_right : List Str := ["_law_a", "_law_some", "_law_k", "_law_e", "_law_j"]
theorem sc__law_kinds_right : FnScope N__law_kinds_right ["_law_a"] (defScope st__law_kinds_right) := ⟨rfl, rfl, rfl, by decide +kernel, rfl, by decide +kernel, by decide +kernel⟩
theorem ok__law_kinds_right {k : Nat} {f : Addr} {fd : FuncData} (F : Fun K "_law_kinds_right" "_law_kinds_right" st__law_kinds_right f fd) (hm : mg "_law_kinds_right" = some (.ref f)) (hb : Binds K fd ["_law_a"] []) (B : Blt mg) (hk : 2 ≤ k) {al : List (Str × Addr)} (FM : Fam K al) {A_NoPlace : Addr} (V_NoPlace : ErA P w K mg base 1 "NoPlace" "place" A_NoPlace) {A_NoVersion : Addr} (V_NoVersion : ErA P w K mg base 1 "NoVersion" "version" A_NoVersion) {A_PlayError : Addr} (V_PlayError : ErB K mg "PlayError" A_PlayError) {A_NothingToRedo : Addr} (V_NothingToRedo : ErB K mg "NothingToRedo" A_NothingToRedo) {A_BadEdits : Addr} (V_BadEdits : ErB K mg "BadEdits" A_BadEdits) {A_BadEdit : Addr} (V_BadEdit : ErA P w K mg base 1 "BadEdit" "index" A_BadEdit) {A_Rejected : Addr} (V_Rejected : ErA P w K mg base 1 "Rejected" "index" A_Rejected) {A_IsGiven : Addr} (V_IsGiven : ErA P w K mg base 1 "IsGiven" "place" A_IsGiven) {A_NotGiven : Addr} (V_NotGiven : ErA P w K mg base 1 "NotGiven" "place" A_NotGiven) {A_NoGift : Addr} (V_NoGift : ErB K mg "NoGift" A_NoGift) {A_Lost : Addr} (V_Lost : ErA P w K mg base 1 "Lost" "number" A_Lost) {A_Busy : Addr} (V_Busy : ErB K mg "Busy" A_Busy) {A_TooManyEdits : Addr} (V_TooManyEdits : ErB K mg "TooManyEdits" A_TooManyEdits) {A_NothingToUndo : Addr} (V_NothingToUndo : ErB K mg "NothingToUndo" A_NothingToUndo) {A_BadText : Addr} (V_BadText : ErA P w K mg base 1 "BadText" "line" A_BadText) {A_BadProgram : Addr} (V_BadProgram : ErA P w K mg base 1 "BadProgram" "error" A_BadProgram) {A_BadGift : Addr} (V_BadGift : ErA P w K mg base 1 "BadGift" "value" A_BadGift) {A_BadNumber : Addr} (V_BadNumber : ErA P w K mg base 1 "BadNumber" "number" A_BadNumber) {A_BadTurns : Addr} (V_BadTurns : ErA P w K mg base 1 "BadTurns" "turns" A_BadTurns) {A_BadRows : Addr} (V_BadRows : ErA P w K mg base 1 "BadRows" "index" A_BadRows) {A_NotParted : Addr} (V_NotParted : ErB K mg "NotParted" A_NotParted) {A_NotTheirs : Addr} (V_NotTheirs : ErA P w K mg base 1 "NotTheirs" "place" A_NotTheirs) {B_NoVersion : Addr} (U_NoVersion : ErN mg al "NoVersion" B_NoVersion) {B_NoPlace : Addr} (U_NoPlace : ErN mg al "NoPlace" B_NoPlace) {B_PlayError : Addr} (U_PlayError : ErN mg al "PlayError" B_PlayError) {f__law_kinds : Fn} (F__law_kinds : DefD P w K mg base k "_law_kinds" 1 (toC f__law_kinds)) :
    DefD P w K mg base (k + 1) "_law_kinds_right" 1 (toC (fDef 1 5 (K00.b__law_kinds_right f__law_kinds))) := by
  exact defF F sc__law_kinds_right hm hb rfl rfl (fun cdv A outer s H E hg hr => ⟨_, (xs_cons (xs_set (i := 1) sc__law_kinds_right.nd rfl (.inl rfl) (.inl rfl) (x_lst (xa_cons (x_mkE (V_BadText) (by exact hr.mono hk) rfl (xv 0)) (xa_cons (x_mkE (V_BadProgram) (by exact hr.mono hk) rfl (xv 0)) (xa_cons (x_mkE (V_BadGift) (by exact hr.mono hk) rfl (xv 0)) (xa_cons (x_mkE (V_BadNumber) (by exact hr.mono hk) rfl (xv 0)) (xa_cons (x_mkE (V_BadTurns) (by exact hr.mono hk) rfl (xv 0)) (xa_cons (x_mkE (V_BadRows) (by exact hr.mono hk) rfl (xv 0)) (xa_cons (x_mk0 (V_NotParted) rfl) (xa_cons (x_mkE (V_NotTheirs) (by exact hr.mono hk) rfl (xv 0)) xa_nil)))))))))) (xs_cons (xs_set (i := 1) sc__law_kinds_right.nd rfl (.inl rfl) (.inl rfl) (x_op xo_add (xv 1) (x_lst (xa_cons (x_mkE (V_IsGiven) (by exact hr.mono hk) rfl (xv 0)) (xa_cons (x_mkE (V_NotGiven) (by exact hr.mono hk) rfl (xv 0)) (xa_cons (x_mk0 (V_NoGift) rfl) (xa_cons (x_mkE (V_Lost) (by exact hr.mono hk) rfl (xv 0)) (xa_cons (x_mk0 (V_Busy) rfl) (xa_cons (x_mk0 (V_TooManyEdits) rfl) (xa_cons (x_mk0 (V_NothingToUndo) rfl) xa_nil)))))))))) (xs_cons (xs_set (i := 1) sc__law_kinds_right.nd rfl (.inl rfl) (.inl rfl) (x_op xo_add (xv 1) (x_lst (xa_cons (x_mk0 (V_NothingToRedo) rfl) (xa_cons (x_mk0 (V_BadEdits) rfl) (xa_cons (x_mkE (V_BadEdit) (by exact hr.mono hk) rfl (xv 0)) (xa_cons (x_mkE (V_Rejected) (by exact hr.mono hk) rfl (xv 0)) xa_nil))))))) (xs_cons (xs_for PassesOwn.never rfl (xi_rng1 rfl B.range (xa_cons x_int xa_nil)) (xg_name (i := 2) sc__law_kinds_right.nd rfl (.inr rfl) (.inl rfl)) (xs_cons (xs_if (xt_w (xw_or (xt_cmp (xo_neB (by exact hr.units)) (x_call F__law_kinds (by exact hg) (by exact hr) rfl (xa_cons (x_ix (xv 1) (xv 2) (fun _ _ => rfl)) xa_nil)) (x_lc rfl sc__law_kinds_right.nd (tt := tYes) (t := fYes) (te := (tOp (vEqF K) (tVar 4) (tVar 2))) (f := (fOp (oEq id) (fVar 4) (fVar 2))) (xi_rng1 rfl B.range (xa_cons x_int xa_nil)) (blkOk_by (N := N__law_kinds_right) (sc := defScope st__law_kinds_right) (by decide +kernel)) (fun _ _ _ _ _ => pg_name (i := 4) sc__law_kinds_right.nd rfl (Or.inl rfl)) (fun _ _ _ _ _ => xts_nil) (fun _ _ _ _ _ => (x_cmp (xo_eq (by exact hr.units)) (xv 4) (xv 2) (nomark _))) (s0 := s)) (nomark _)) (xw_or1 (xt_val (x_isE (cV := .ty "LookupError") (cv := .type "LookupError") rfl B.isinstance bt_isinstance (x_ix (xv 1) (xv 2) (fun _ _ => rfl)) (pe_bltn rfl B.LookupError bt_LookupError rfl) (fun _ h => h) (fam_LookupError FM)))))) (xs_one (xs_ret x_bl)) xs_nil) (xs_one (xs_if (xt_w (xw_or (xt_not (xt_val (x_isE (cV := .ref B_PlayError) (cv := .ref B_PlayError) rfl B.isinstance bt_isinstance (x_ix (xv 1) (xv 2) (fun _ _ => rfl)) (pe_glob rfl (U_PlayError.mgx) rfl) (fun _ h => h) (fam_is FM U_PlayError.mem)))) (xw_or1 (xt_not (xt_val (x_isE (cV := .ty "ValueError") (cv := .type "ValueError") rfl B.isinstance bt_isinstance (x_ix (xv 1) (xv 2) (fun _ _ => rfl)) (pe_bltn rfl B.ValueError bt_ValueError rfl) (fun _ h => h) (fam_ValueError FM))))))) (xs_one (xs_ret x_bl)) xs_nil)))) (xs_cons (xs_for PassesOwn.never rfl (xi_any (x_lst (xa_cons (x_mkE (V_NoPlace) (by exact hr.mono hk) rfl (xv 0)) (xa_cons (x_mkE (V_NoVersion) (by exact hr.mono hk) rfl (xv 0)) (xa_cons (x_mk0 (V_PlayError) rfl) xa_nil))))) (xg_name (i := 3) sc__law_kinds_right.nd rfl (.inl rfl) (.inl rfl)) (xs_one (xs_if (xt_cmp xo_inB x_bl (x_call F__law_kinds (by exact hg) (by exact hr) rfl (xa_cons (xv 3) xa_nil)) (by rfl)) (xs_one (xs_ret x_bl)) xs_nil))) (xs_cons (xs_for PassesOwn.never rfl (xi_any (x_lst (xa_cons (x_mkE (V_NoPlace) (by exact hr.mono hk) rfl (xv 0)) (xa_cons (x_mkE (V_NoVersion) (by exact hr.mono hk) rfl (xv 0)) xa_nil)))) (xg_name (i := 3) sc__law_kinds_right.nd rfl (.inl rfl) (.inl rfl)) (xs_one (xs_if (xt_w (xw_or (xt_not (xt_val (x_isE (cV := .ty "LookupError") (cv := .type "LookupError") rfl B.isinstance bt_isinstance (xv 3) (pe_bltn rfl B.LookupError bt_LookupError rfl) (fun _ h => h) (fam_LookupError FM)))) (xw_or (xt_val (x_isE (cV := .ty "ValueError") (cv := .type "ValueError") rfl B.isinstance bt_isinstance (xv 3) (pe_bltn rfl B.ValueError bt_ValueError rfl) (fun _ h => h) (fam_ValueError FM))) (xw_or1 (xt_val (x_isE (cV := .ref B_PlayError) (cv := .ref B_PlayError) rfl B.isinstance bt_isinstance (xv 3) (pe_glob rfl (U_PlayError.mgx) rfl) (fun _ h => h) (fam_is FM U_PlayError.mem))))))) (xs_one (xs_ret x_bl)) xs_nil))) (xs_cons (xs_if (xt_w (xw_or (xt_val (x_isE (cV := .ty "LookupError") (cv := .type "LookupError") rfl B.isinstance bt_isinstance (x_mk0 (V_PlayError) rfl) (pe_bltn rfl B.LookupError bt_LookupError rfl) (fun _ h => h) (fam_LookupError FM))) (xw_or1 (xt_not (xt_val (x_isE (cV := .ty "ValueError") (cv := .type "ValueError") rfl B.isinstance bt_isinstance (x_mk0 (V_PlayError) rfl) (pe_bltn rfl B.ValueError bt_ValueError rfl) (fun _ h => h) (fam_ValueError FM))))))) (xs_one (xs_ret x_bl)) xs_nil) (xs_one (xs_ret (x_and (x_not (x_isE (cV := .ref B_NoVersion) (cv := .ref B_NoVersion) rfl B.isinstance bt_isinstance (x_mkE (V_NoPlace) (by exact hr.mono hk) rfl (xv 0)) (pe_glob rfl (U_NoVersion.mgx) rfl) (fun _ h => h) (fam_is FM U_NoVersion.mem))) (x_one (x_not (x_isE (cV := .ref B_NoPlace) (cv := .ref B_NoPlace) rfl B.isinstance bt_isinstance (x_mkE (V_NoVersion) (by exact hr.mono hk) rfl (xv 0)) (pe_glob rfl (U_NoPlace.mgx) rfl) (fun _ h => h) (fam_is FM U_NoPlace.mem))))))))))))))⟩)
/-! _law_fields_right -/
noncomputable def b__law_fields_right : FS :=
    (fsSeq (fsAsg (fLst (fCons (fFldE "BadText" "line" (fMkE "BadText" "line" (fVar 0))) (fCons (fFldE "BadProgram" "error" (fMkE "BadProgram" "error" (fVar 0))) (fCons (fFldE "BadGift" "value" (fMkE "BadGift" "value" (fVar 0))) (fCons (fFldE "BadNumber" "number" (fMkE "BadNumber" "number" (fVar 0))) (fCons (fFldE "BadTurns" "turns" (fMkE "BadTurns" "turns" (fVar 0))) fNil)))))) (fgName 1))
    (fsSeq (fsAsg (fOp oAdd (fVar 1) (fLst (fCons (fFldE "BadRows" "index" (fMkE "BadRows" "index" (fVar 0))) (fCons (fFldE "NotTheirs" "place" (fMkE "NotTheirs" "place" (fVar 0))) (fCons (fFldE "IsGiven" "place" (fMkE "IsGiven" "place" (fVar 0))) (fCons (fFldE "NotGiven" "place" (fMkE "NotGiven" "place" (fVar 0))) (fCons (fFldE "Lost" "number" (fMkE "Lost" "number" (fVar 0))) fNil))))))) (fgName 1))
    (fsSeq (fsAsg (fOp oAdd (fVar 1) (fLst (fCons (fFldE "BadEdit" "index" (fMkE "BadEdit" "index" (fVar 0))) (fCons (fFldE "Rejected" "index" (fMkE "Rejected" "index" (fVar 0))) (fCons (fFldE "NoPlace" "place" (fMkE "NoPlace" "place" (fVar 0))) (fCons (fFldE "NoVersion" "version" (fMkE "NoVersion" "version" (fVar 0))) fNil)))))) (fgName 1))
    (fsRet (fOp (oEqS id) (fLc (fiAny (fVar 1)) 2 fYes (fCB bReprD (fCons (fVar 2) fNil))) (fOp oMul (fLst (fCons (fCB bReprD (fCons (fVar 0) fNil)) fNil)) (fCB bLen (fCons (fVar 1) fNil))))))))
abbrev N__law_fields_right : List Str := ["_law_a", "_law_found", "_law_one_here"]
theorem sc__law_fields_right : FnScope N__law_fields_right ["_law_a"] (defScope st__law_fields_right) := ⟨rfl, rfl, rfl, by decide +kernel, rfl, by decide +kernel, by decide +kernel⟩
theorem ok__law_fields_right {k : Nat} {f : Addr} {fd : FuncData} (hsy : HasSys base) (F : Fun K "_law_fields_right" "_law_fields_right" st__law_fields_right f fd) (hm : mg "_law_fields_right" = some (.ref f)) (hb : Binds K fd ["_law_a"] []) (B : Blt mg) (hk : 2 ≤ k) {A_BadEdit : Addr} (V_BadEdit : ErA P w K mg base 1 "BadEdit" "index" A_BadEdit) {A_Rejected : Addr} (V_Rejected : ErA P w K mg base 1 "Rejected" "index" A_Rejected) {A_NoPlace : Addr} (V_NoPlace : ErA P w K mg base 1 "NoPlace" "place" A_NoPlace) {A_NoVersion : Addr} (V_NoVersion : ErA P w K mg base 1 "NoVersion" "version" A_NoVersion) {A_BadRows : Addr} (V_BadRows : ErA P w K mg base 1 "BadRows" "index" A_BadRows) {A_NotTheirs : Addr} (V_NotTheirs : ErA P w K mg base 1 "NotTheirs" "place" A_NotTheirs) {A_IsGiven : Addr} (V_IsGiven : ErA P w K mg base 1 "IsGiven" "place" A_IsGiven) {A_NotGiven : Addr} (V_NotGiven : ErA P w K mg base 1 "NotGiven" "place" A_NotGiven) {A_Lost : Addr} (V_Lost : ErA P w K mg base 1 "Lost" "number" A_Lost) {A_BadText : Addr} (V_BadText : ErA P w K mg base 1 "BadText" "line" A_BadText) {A_BadProgram : Addr} (V_BadProgram : ErA P w K mg base 1 "BadProgram" "error" A_BadProgram) {A_BadGift : Addr} (V_BadGift : ErA P w K mg base 1 "BadGift" "value" A_BadGift) {A_BadNumber : Addr} (V_BadNumber : ErA P w K mg base 1 "BadNumber" "number" A_BadNumber) {A_BadTurns : Addr} (V_BadTurns : ErA P w K mg base 1 "BadTurns" "turns" A_BadTurns) :
    DefD P w K mg base (k + 1) "_law_fields_right" 1 (toC (fDef 1 3 K00.b__law_fields_right)) := by
  exact defF F sc__law_fields_right hm hb rfl rfl (fun cdv A outer s H E hg hr => ⟨_, (xs_cons (xs_set (i := 1) sc__law_fields_right.nd rfl (.inl rfl) (.inl rfl) (x_lst (xa_cons (x_fldE (V_BadText) (x_mkE (V_BadText) (by exact hr.mono hk) rfl (xv 0))) (xa_cons (x_fldE (V_BadProgram) (x_mkE (V_BadProgram) (by exact hr.mono hk) rfl (xv 0))) (xa_cons (x_fldE (V_BadGift) (x_mkE (V_BadGift) (by exact hr.mono hk) rfl (xv 0))) (xa_cons (x_fldE (V_BadNumber) (x_mkE (V_BadNumber) (by exact hr.mono hk) rfl (xv 0))) (xa_cons (x_fldE (V_BadTurns) (x_mkE (V_BadTurns) (by exact hr.mono hk) rfl (xv 0))) xa_nil))))))) (xs_cons (xs_set (i := 1) sc__law_fields_right.nd rfl (.inl rfl) (.inl rfl) (x_op xo_add (xv 1) (x_lst (xa_cons (x_fldE (V_BadRows) (x_mkE (V_BadRows) (by exact hr.mono hk) rfl (xv 0))) (xa_cons (x_fldE (V_NotTheirs) (x_mkE (V_NotTheirs) (by exact hr.mono hk) rfl (xv 0))) (xa_cons (x_fldE (V_IsGiven) (x_mkE (V_IsGiven) (by exact hr.mono hk) rfl (xv 0))) (xa_cons (x_fldE (V_NotGiven) (x_mkE (V_NotGiven) (by exact hr.mono hk) rfl (xv 0))) (xa_cons (x_fldE (V_Lost) (x_mkE (V_Lost) (by exact hr.mono hk) rfl (xv 0))) xa_nil)))))))) (xs_cons (xs_set (i := 1) sc__law_fields_right.nd rfl (.inl rfl) (.inl rfl) (x_op xo_add (xv 1) (x_lst (xa_cons (x_fldE (V_BadEdit) (x_mkE (V_BadEdit) (by exact hr.mono hk) rfl (xv 0))) (xa_cons (x_fldE (V_Rejected) (x_mkE (V_Rejected) (by exact hr.mono hk) rfl (xv 0))) (xa_cons (x_fldE (V_NoPlace) (x_mkE (V_NoPlace) (by exact hr.mono hk) rfl (xv 0))) (xa_cons (x_fldE (V_NoVersion) (x_mkE (V_NoVersion) (by exact hr.mono hk) rfl (xv 0))) xa_nil))))))) (xs_one (xs_ret (x_cmp (xo_eqS (by exact hr.units)) (x_lc rfl sc__law_fields_right.nd (tt := tYes) (t := fYes) (te := (tCB (vReprD K) (tCons (tVar 2) tNil))) (f := (fCB bReprD (fCons (fVar 2) fNil))) (xi_any (xv 1)) (blkOk_by (N := N__law_fields_right) (sc := defScope st__law_fields_right) (by decide +kernel)) (fun _ _ _ _ _ => pg_name (i := 2) sc__law_fields_right.nd rfl (Or.inl rfl)) (fun _ _ _ _ _ => xts_nil) (fun _ _ _ _ _ => (x_callB (xb_reprD (by exact hsy) (by exact hg) (by exact hr.units)) rfl B.repr bt_repr (xa_cons (xv 2) xa_nil))) (s0 := s)) (x_op xo_mul (x_lst (xa_cons (x_callB (xb_reprD (by exact hsy) (by exact hg) (by exact hr.units)) rfl B.repr bt_repr (xa_cons (xv 0) xa_nil)) xa_nil)) (x_callB xb_len rfl B.len bt_len (xa_cons (xv 1) xa_nil))) (nomark _)))))))⟩)
/-! _law_bounds -/
noncomputable def b__law_bounds : FS :=
    (fsSeq (fsAsg (fLst (fCons (fC (.int 8)) (fCons (fC (.int 8)) (fCons (fC (.int 3)) (fCons (fC (.int 2)) (fCons (fC (.int 6)) (fCons (fC (.int 24)) (fCons (fC (.int 30)) (fCons (fC (.int 4)) (fCons (fC (.int 2)) fNil)))))))))) (fgName 0))
    (fsSeq (fsAsg (fOp oAdd (fVar 0) (fLst (fCons (fC (.int 2)) (fCons (fC (.int 3)) (fCons (fC (.int 1000000)) (fCons (fC (.int 60)) (fCons (fC (.int 20)) fNil))))))) (fgName 0))
    (fsRet (fOp oAdd (fVar 0) (fLst (fCons (fC (.int 60)) (fCons (fC (.int 60)) fNil)))))))
abbrev N__law_bounds : List Str := ["_law_found"]
theorem sc__law_bounds : FnScope N__law_bounds [] (defScope st__law_bounds) := ⟨rfl, rfl, rfl, by decide +kernel, rfl, by decide +kernel, by decide +kernel⟩
theorem ok__law_bounds {k : Nat} {f : Addr} {fd : FuncData} (F : Fun K "_law_bounds" "_law_bounds" st__law_bounds f fd) (hm : mg "_law_bounds" = some (.ref f)) (hb : Binds K fd [] []) (C : Cst K mg) (KC : Kcs K mg) :
    DefD P w K mg base (k + 1) "_law_bounds" 0 (toC (fDef 0 1 K00.b__law_bounds)) := by
  exact defF F sc__law_bounds hm hb rfl rfl (fun cdv A outer s H E hg hr => ⟨_, (xs_cons (xs_set (i := 0) sc__law_bounds.nd rfl (.inl rfl) (.inl rfl) (x_lst (xa_cons (x_glob rfl C.MAX_NAME) (xa_cons (x_glob rfl C.MAX_TIMES) (xa_cons (x_glob rfl C.MAX_DEEP) (xa_cons (x_glob rfl C.MAX_NOTS) (xa_cons (x_glob rfl C.MAX_BY) (xa_cons (x_glob rfl C.MAX_PLACES) (xa_cons (x_glob rfl C.MAX_WEIGHT) (xa_cons (x_glob rfl C.MAX_CHOICES) (xa_cons (x_glob rfl C.MAX_RESTS) xa_nil))))))))))) (xs_cons (xs_set (i := 0) sc__law_bounds.nd rfl (.inl rfl) (.inl rfl) (x_op xo_add (xv 0) (x_lst (xa_cons (x_glob rfl C.MAX_COMPARINGS) (xa_cons (x_glob rfl C.MAX_NEST) (xa_cons (x_glob rfl C.MAX_PERIOD) (xa_cons (x_glob rfl C.MAX_EDITS) (xa_cons (x_glob rfl C.BATCH) xa_nil)))))))) (xs_one (xs_ret (x_op xo_add (xv 0) (x_lst (xa_cons (x_kc (KC.Bench) rfl) (xa_cons (x_kc (KC.WonBench) rfl) xa_nil))))))))⟩)
/-! law -/
noncomputable def b_law (c0 : Fn) (c1 : Fn) (c2 : Fn) (c3 : Fn) (c4 : Fn) : FS :=
    (fsSeq (fsAsg (fCall c4 (fCons (fVar 0) fNil)) (fgName 1))
    (fsSeq (fsFor (fiRng1 (fCons (fC (.int 4)) fNil)) (fgName 2) (fsSeq (fsAsg (fCall c3 (fCons (fVar 1) fNil)) (fgName 3))
    (fsIf (fOr (fNot (fTest (fCall c1 (fCons (fVar 3) fNil)))) (fNot (fTest (fCall c2 (fCons (fVar 3) fNil))))) (fsRet (fC (.bl false))) fsNext)))
    (fsRet (fOp (oEq id) (fCB bReprD (fCons (fCall0 c0) fNil)) (fCB bReprD (fCons (fLst (fCons (fC (.int 8)) (fCons (fC (.int 8)) (fCons (fC (.int 3)) (fCons (fC (.int 2)) (fCons (fC (.int 6)) (fCons (fC (.int 24)) (fCons (fC (.int 30)) (fCons (fC (.int 4)) (fCons (fC (.int 2)) (fCons (fC (.int 2)) (fCons (fC (.int 3)) (fCons (fOp (oI CPow fun i j => .int (i ^ j.toNat)) (fC (.int 10)) (fC (.int 6))) (fCons (fC (.int 60)) (fCons (fC (.int 20)) (fCons (fC (.int 60)) (fCons (fC (.int 60)) fNil))))))))))))))))) fNil))))))
abbrev N_law : List Str := ["_law_script", "_law_deck_here", "_law_turn", "_law_a"]
theorem sc_law : FnScope N_law ["_law_script"] (defScope st_law) := ⟨rfl, rfl, rfl, by decide +kernel, rfl, by decide +kernel, by decide +kernel⟩
theorem fn_law {k : Nat} {f : Addr} {fd : FuncData} (hsy : HasSys base) (F : Fun K "law" "law" st_law f fd) (B : Blt mg) {f__law_bounds : Fn} (F__law_bounds : DefD P w K mg base k "_law_bounds" 0 (toC f__law_bounds)) {f__law_kinds_right : Fn} (F__law_kinds_right : DefD P w K mg base k "_law_kinds_right" 1 (toC f__law_kinds_right)) {f__law_fields_right : Fn} (F__law_fields_right : DefD P w K mg base k "_law_fields_right" 1 (toC f__law_fields_right)) {f__law_value : Fn} (F__law_value : DefD P w K mg base k "_law_value" 1 (toC f__law_value)) {f__law_deck : Fn} (F__law_deck : DefD P w K mg base k "_law_deck" 1 (toC f__law_deck)) :
    FnG P w K mg base CX0 (k + 1) f fd ["_law_script"] (toSp K (toC (fDef 1 4 (K00.b_law f__law_bounds f__law_kinds_right f__law_fields_right f__law_value f__law_deck)))) := by
  exact fnF F sc_law rfl rfl (fun cdv A outer s H E hg hr => ⟨_, (xs_cons (xs_set (i := 1) sc_law.nd rfl (.inl rfl) (.inl rfl) (x_call F__law_deck (by exact hg) (by exact hr) rfl (xa_cons (xv 0) xa_nil))) (xs_cons (xs_for PassesOwn.never rfl (xi_rng1 rfl B.range (xa_cons x_int xa_nil)) (xg_name (i := 2) sc_law.nd rfl (.inl rfl) (.inl rfl)) (xs_cons (xs_set (i := 3) sc_law.nd rfl (.inl rfl) (.inl rfl) (x_call F__law_value (by exact hg) (by exact hr) rfl (xa_cons (xv 1) xa_nil))) (xs_one (xs_if (xt_w (xw_or (xt_not (xt_val (x_call F__law_kinds_right (by exact hg) (by exact hr) rfl (xa_cons (xv 3) xa_nil)))) (xw_or1 (xt_not (xt_val (x_call F__law_fields_right (by exact hg) (by exact hr) rfl (xa_cons (xv 3) xa_nil))))))) (xs_one (xs_ret x_bl)) xs_nil)))) (xs_one (xs_ret (x_cmp (xo_eq (by exact hr.units)) (x_callB (xb_reprD (by exact hsy) (by exact hg) (by exact hr.units)) rfl B.repr bt_repr (xa_cons (x_call0 F__law_bounds (by exact hg) (by exact hr) rfl) xa_nil)) (x_callB (xb_reprD (by exact hsy) (by exact hg) (by exact hr.units)) rfl B.repr bt_repr (xa_cons (x_lst (xa_cons x_int (xa_cons x_int (xa_cons x_int (xa_cons x_int (xa_cons x_int (xa_cons x_int (xa_cons x_int (xa_cons x_int (xa_cons x_int (xa_cons x_int (xa_cons x_int (xa_cons (x_op xo_pow x_int x_int) (xa_cons x_int (xa_cons x_int (xa_cons x_int (xa_cons x_int xa_nil))))))))))))))))) xa_nil)) (nomark _))))))⟩)
end
end K00


set_option Elab.async false
set_option linter.all false
set_option maxRecDepth 100000
set_option maxHeartbeats 2000000
namespace K00
open PySem L2 DL PG PyProof.Rows
/-! ### the values, and how they are shown -/
def Shw (S : Sto) (d : D) : Prop := ∃ p, ∀ S2, Ext S S2 → ShowsD S2 d p
def Small (n : Int) : Prop := -500000000 ≤ n ∧ n < 500000000
theorem small_len {n : Int} (h : Small n) : (Str.ofString (toString n)).length ≤ 13 := by
  obtain ⟨h0, h1⟩ := h
  by_cases hz : 0 ≤ n
  · exact Nat.le_trans (toString_length_le hz (k := 9) (by decide) (by omega)) (by decide)
  · cases n with
    | ofNat k => exact absurd (Int.natCast_nonneg k) hz
    | negSucc k =>
      have h2 := toString_length_le (v := ((k + 1 : Nat) : Int)) (by omega) (k := 9) (by decide) (by omega)
      have e : (Str.ofString (toString (Int.negSucc k))).length = (Str.ofString (toString ((k + 1 : Nat) : Int))).length + 1 := by
        rw [show toString (Int.negSucc k) = "-" ++ toString (k + 1) from rfl, show toString ((k + 1 : Nat) : Int) = toString (k + 1) from rfl, PyProof.Rows.ofString_length, PyProof.Rows.ofString_length]
        simp
      rw [e]
      omega
theorem small_log {n : Int} (h : Small n) : n.natAbs.log2 < 1920 := by
  obtain ⟨h0, h1⟩ := h
  by_cases hz : n.natAbs = 0
  · rw [hz]; decide
  · rw [Nat.log2_lt hz]
    have e2 : (1000000000 : Nat) < 2 ^ 1920 := by decide +kernel
    omega
theorem chars_ok (s : String) : ∀ c ∈ (Str.ofString s).cps.toList, c < 16 ^ 8 := by
  intro c hc
  rw [Str.ofString_eq_toList] at hc
  have hc' : c ∈ s.toList.map Char.toNat := by simpa using hc
  obtain ⟨x, _, rfl⟩ := List.mem_map.mp hc'
  exact x.val.toNat_lt
theorem shows_mk {S : Sto} {d : D} {p : PyData} (q : PyQ S d p) (hl : p.leavesShort 13 = true) (hw : p.weight ≤ 10000) (hs : p.showable = true) (hd : p.depth ≤ 60) : ShowsD S d p :=
  ⟨q, hs, PyData.shown_fits (B := 13) (by decide) (by decide) hl (Nat.le_trans hw (by decide)), hd⟩
theorem Ext.getM {S S' : Sto} (e : Ext S S') {l : Nat} {o : Ob} (h : S[l]? = some o) : S'[l]? = some o := e.at h
noncomputable def f_value : Fn := fDef 1 3 (b__law_value f_one f_draw)
abbrev valsA (n : Int) (l : Nat) : List D := [.non, .bl true, .bl false, .int 0, .int 1, .int n, .str (toString n), .str "", .tup [], .tup [.int n], .loc l, .tup [.non, .str "places"], .tup [.tup [.int 1], .bl true], .loc (l + 1)]
abbrev valsB (n : Int) (l : Nat) : List D := [.loc (l + 3), .tup [.str "pay", .str "n"], .tup [.tup [.int 0, .int 1], .tup [.int 1, .int n]]]
theorem value_ok {S : Sto} {i j : Nat} {m : Int} (hd : Dk S i j m) (hm : m + 2 < B) : ∃ d S', f_value [.loc i] S = some (d, S') ∧ Dk S' i j (m + 2) ∧ Shw S' d := by
  have hB : B = 1000000000000 := rfl
  obtain ⟨k, S1, e1, k0, k1, d1, c1, l1⟩ := draw_ok (many := 1000000000) hd (by omega) (by decide) (by decide)
  have p1 : oI CPow (fun i j => D.int (i ^ j.toNat)) (.int 10) (.int 9) S = some (.int 1000000000, S) := oI_int (g := fun i j => D.int (i ^ j.toNat)) ⟨by decide, by decide, by decide⟩
  have p2 : oI CPow (fun i j => D.int (i ^ j.toNat)) (.int 10) (.int 8) S1 = some (.int 100000000, S1) := oI_int (g := fun i j => D.int (i ^ j.toNat)) ⟨by decide, by decide, by decide⟩
  have p3 : oMul (.int 5) (.int 100000000) S1 = some (.int 500000000, S1) := oMul_int (.inl ⟨by decide, by decide⟩)
  have hs : Small (k - 500000000) := ⟨by omega, by omega⟩
  have lg := small_log hs
  generalize hn : k - 500000000 = n at hs lg
  have il := d1.il
  have jl := d1.jl
  let Z : Sto := [.lst [.int n], .dct [], .lst (valsA n S1.length), .dct [(.inr "a", .int n)], .lst (valsB n S1.length), .lst (valsA n S1.length ++ valsB n S1.length)]
  obtain ⟨d, S2, e2, dm, d2, c2, l2⟩ := one_ok (l := S1.length + 5) (d1.app Z) (by omega) (ds := valsA n S1.length ++ valsB n S1.length) (by simp [Z]) (by omega) (by omega) (by simp) (by simp)
  refine ⟨d, S2, ?_, by rw [show m + 2 = m + 1 + 1 by omega]; exact d2, ?_⟩
  · have e3 := e2
    simp [Z, valsA, valsB] at e3
    simp [f_value, fDef, b__law_value, p1, e1, p2, p3, hn, bStrI, lg, e3]
  · have hA : S2[S1.length]? = some (.lst [.int n]) := c2.at_ _ _ (by omega) (by omega) (by simp [Z])
    have hB' : S2[S1.length + 1]? = some (.dct (dcK [])) := c2.at_ _ _ (by omega) (by omega) (by simp [Z, dcK])
    have hC : S2[S1.length + 3]? = some (.dct (dcK [("a", n)])) := c2.at_ _ _ (by omega) (by omega) (by simp [Z, dcK])
    have sl := small_len hs
    have w1 : (if (n == 0) = true then 0 else n.natAbs.log2 + 1) ≤ 1920 := by split <;> omega
    have sc := chars_ok (toString n)
    have si : (PyData.int n).leavesShort 13 = true := by simp only [PyData.leavesShort, PyData.shown]; exact decide_eq_true sl
    have ss : (PyData.str (toString n : String)).leavesShort 13 = true := by simp only [PyData.leavesShort, List.all_eq_true]; exact fun c hc => decide_eq_true (sc c hc)
    have sz : (Str.ofString (toString n)).cps.size ≤ 13 := sl
    have so : (PyData.int n).showable = true := by simp only [PyData.showable]; exact decide_eq_true lg
    have w2 : (PyData.int n).weight ≤ 1920 := by simp only [PyData.weight]; exact w1
    rcases List.mem_append.mp dm with h | h
    · simp only [valsA, List.mem_cons, List.not_mem_nil, or_false] at h
      rcases h with rfl | rfl | rfl | rfl | rfl | rfl | rfl | rfl | rfl | rfl | rfl | rfl | rfl | rfl
      · exact ⟨.none, fun S3 x => shows_mk .non rfl (by decide +kernel) rfl (by decide +kernel)⟩
      · exact ⟨.bool true, fun S3 x => shows_mk (.bl _) rfl (by decide +kernel) rfl (by decide +kernel)⟩
      · exact ⟨.bool false, fun S3 x => shows_mk (.bl _) rfl (by decide +kernel) rfl (by decide +kernel)⟩
      · exact ⟨.int 0, fun S3 x => shows_mk (.int _) (by decide +kernel) (by decide +kernel) (by decide +kernel) (by decide +kernel)⟩
      · exact ⟨.int 1, fun S3 x => shows_mk (.int _) (by decide +kernel) (by decide +kernel) (by decide +kernel) (by decide +kernel)⟩
      · exact ⟨.int n, fun S3 x => shows_mk (.int _) si (by omega) so (by simp [PyData.depth])⟩
      · exact ⟨.str (toString n : String), fun S3 x => shows_mk (.str _) ss (by simp only [PyData.weight]; omega) (by simp only [PyData.showable]) (by simp [PyData.depth])⟩
      · exact ⟨.str "", fun S3 x => shows_mk (.str _) (by decide +kernel) (by decide +kernel) (by decide +kernel) (by decide +kernel)⟩
      · exact ⟨.tuple [], fun S3 x => shows_mk (.tup .nil) (by decide +kernel) (by decide +kernel) (by decide +kernel) (by decide +kernel)⟩
      · exact ⟨.tuple [.int n], fun S3 x => shows_mk (.tup (.cons (.int _) .nil)) (by simp only [PyData.leavesShort, PyData.leavesShortAll] at si ⊢; simpa using si) (by simp only [PyData.weight, PyData.weightAll] at w2 ⊢; omega) (by simp only [PyData.showable, PyData.showableAll] at so ⊢; simpa using so) (by simp [PyData.depth, PyData.depthAll])⟩
      · exact ⟨.list [.int n], fun S3 x => shows_mk (.lst (x.at hA) (.cons (.int _) .nil)) (by simp only [PyData.leavesShort, PyData.leavesShortAll] at si ⊢; simpa using si) (by simp only [PyData.weight, PyData.weightAll] at w2 ⊢; omega) (by simp only [PyData.showable, PyData.showableAll] at so ⊢; simpa using so) (by simp [PyData.depth, PyData.depthAll])⟩
      · exact ⟨.tuple [.none, .str "places"], fun S3 x => shows_mk (.tup (.cons .non (.cons (.str _) .nil))) (by decide +kernel) (by decide +kernel) (by decide +kernel) (by decide +kernel)⟩
      · exact ⟨.tuple [.tuple [.int 1], .bool true], fun S3 x => shows_mk (.tup (.cons (.tup (.cons (.int _) .nil)) (.cons (.bl _) .nil))) (by decide +kernel) (by decide +kernel) (by decide +kernel) (by decide +kernel)⟩
      · exact ⟨.dict (dcP []), fun S3 x => shows_mk (.dct (x.at hB')) (by decide +kernel) (by decide +kernel) (by decide +kernel) (by decide +kernel)⟩
    · simp only [valsB, List.mem_cons, List.not_mem_nil, or_false] at h
      rcases h with rfl | rfl | rfl
      · exact ⟨.dict (dcP [("a", n)]), fun S3 x => shows_mk (.dct (x.at hC)) (by simp only [dcP, List.map, PyData.leavesShort, PyData.leavesShortKv] at si ⊢; rw [si]; decide +kernel) (by simp only [dcP, List.map, PyData.weight, PyData.weightKv] at w2 ⊢; rw [show (Str.ofString "a").cps.size = 1 by decide +kernel]; omega) (by simp only [dcP, List.map, PyData.showable, PyData.showableKv] at so ⊢; rw [so]; rfl) (by simp [dcP, PyData.depth, PyData.depthKv])⟩
      · exact ⟨.tuple [.str "pay", .str "n"], fun S3 x => shows_mk (.tup (.cons (.str _) (.cons (.str _) .nil))) (by decide +kernel) (by decide +kernel) (by decide +kernel) (by decide +kernel)⟩
      · exact ⟨.tuple [.tuple [.int 0, .int 1], .tuple [.int 1, .int n]], fun S3 x => shows_mk (.tup (.cons (.tup (.cons (.int _) (.cons (.int _) .nil))) (.cons (.tup (.cons (.int _) (.cons (.int _) .nil))) .nil))) (by
          have i0 : (PyData.int 0).leavesShort 13 = true := by decide +kernel
          have i1 : (PyData.int 1).leavesShort 13 = true := by decide +kernel
          simp only [PyData.leavesShort, PyData.leavesShortAll] at si i0 i1 ⊢
          rw [si, i0, i1]; rfl) (by
          have i0 : (PyData.int 0).weight = 0 := by decide +kernel
          have i1 : (PyData.int 1).weight = 1 := by decide +kernel
          simp only [PyData.weight, PyData.weightAll] at w2 i0 i1 ⊢
          omega) (by
          have i0 : (PyData.int 0).showable = true := by decide +kernel
          have i1 : (PyData.int 1).showable = true := by decide +kernel
          simp only [PyData.showable, PyData.showableAll] at so i0 i1 ⊢
          rw [so, i0, i1]; rfl) (by simp [PyData.depth, PyData.depthAll])⟩
end K00

set_option Elab.async false
set_option linter.all false
set_option maxRecDepth 100000
set_option maxHeartbeats 4000000
namespace K00
open PySem L2 DL PG PyProof.Rows
/-! ### readings worked out -/
@[simp] theorem isK_1 {tab : Str → Option Bool} {x f : Str} {ds : List D} {S : Sto} : isK tab (some (.exc x f ds, S)) = if ds.length ≤ 1 then (tab x).map fun b => (.bl b, S) else none := rfl
@[simp] theorem fIsE_ev {tab : Str → Option Bool} {g : FE} {δ : DEnv} {S : Sto} : fIsE tab g δ S = isK tab (g δ S) := rfl
def mkEK (x f : Str) : Option (D × Sto) → Option (D × Sto)
  | some (d, S) => some (.exc x f [d], S)
  | none => none
@[simp] theorem mkEK_1 {x f : Str} {d : D} {S : Sto} : mkEK x f (some (d, S)) = some (.exc x f [d], S) := rfl
@[simp] theorem fMkE_ev {x f : Str} {g : FE} {δ : DEnv} {S : Sto} : fMkE x f g δ S = mkEK x f (g δ S) := by unfold fMkE; cases g δ S <;> rfl
@[simp] theorem fMk0_ev {x : Str} {δ : DEnv} {S : Sto} : fMk0 x δ S = some (.exc x "" [], S) := rfl
@[simp] theorem fldK_1 {x f : Str} {d : D} {S : Sto} : fldK x f (some (.exc x f [d], S)) = some (d, S) := if_pos ⟨rfl, rfl⟩
@[simp] theorem fFldE_ev {x f : Str} {g : FE} {δ : DEnv} {S : Sto} : fFldE x f g δ S = fldK x f (g δ S) := rfl
theorem tabOf_1 {y z : Str} (h : exN.contains z = true) : tabOf y z = some (tabV y z) := if_pos h
abbrev exC : List Str := exN.take 19
/-! ### the kinds of an error -/
noncomputable def f_kinds : Fn := fDef 1 2 b__law_kinds
theorem kinds_ok {x f : Str} {ds : List D} (hx : exN.contains x = true) (hd : ds.length ≤ 1) (S : Sto) : ∃ l z, f_kinds [.exc x f ds] S = some (.loc l, S ++ z) ∧ (S ++ z)[l]? = some (.lst ((exC.map fun y => tabV y x).map D.bl)) := by
  let t : Str → D := fun y => .bl (tabV y x)
  refine ⟨S.length + 10, [.lst [t "BadText", t "BadProgram", t "BadGift", t "BadNumber"],
    .lst [t "BadTurns", t "BadRows", t "NotParted"],
    .lst [t "BadText", t "BadProgram", t "BadGift", t "BadNumber", t "BadTurns", t "BadRows", t "NotParted"],
    .lst [t "NotTheirs", t "IsGiven", t "NotGiven", t "NoGift"],
    .lst [t "BadText", t "BadProgram", t "BadGift", t "BadNumber", t "BadTurns", t "BadRows", t "NotParted", t "NotTheirs", t "IsGiven", t "NotGiven", t "NoGift"],
    .lst [t "Lost", t "Busy", t "TooManyEdits"],
    .lst [t "BadText", t "BadProgram", t "BadGift", t "BadNumber", t "BadTurns", t "BadRows", t "NotParted", t "NotTheirs", t "IsGiven", t "NotGiven", t "NoGift", t "Lost", t "Busy", t "TooManyEdits"],
    .lst [t "NothingToUndo", t "NothingToRedo", t "BadEdits"],
    .lst [t "BadText", t "BadProgram", t "BadGift", t "BadNumber", t "BadTurns", t "BadRows", t "NotParted", t "NotTheirs", t "IsGiven", t "NotGiven", t "NoGift", t "Lost", t "Busy", t "TooManyEdits", t "NothingToUndo", t "NothingToRedo", t "BadEdits"],
    .lst [t "BadEdit", t "Rejected"],
    .lst [t "BadText", t "BadProgram", t "BadGift", t "BadNumber", t "BadTurns", t "BadRows", t "NotParted", t "NotTheirs", t "IsGiven", t "NotGiven", t "NoGift", t "Lost", t "Busy", t "TooManyEdits", t "NothingToUndo", t "NothingToRedo", t "BadEdits", t "BadEdit", t "Rejected"]], ?_, ?_⟩
  · simp [f_kinds, fDef, b__law_kinds, tabOf_1 hx, hd, t]
  · simp [t]
    try rfl
end K00

set_option Elab.async false
set_option linter.all false
set_option maxRecDepth 100000
set_option maxHeartbeats 4000000
namespace K00
open PySem L2 DL PG PyProof.Rows
/-! ### the errors that are made -/
abbrev exT : List (Str × Str × Bool) := [("BadText", "line", true), ("BadProgram", "error", true), ("BadGift", "value", true), ("BadNumber", "number", true), ("BadTurns", "turns", true), ("BadRows", "index", true), ("NotParted", "", false), ("NotTheirs", "place", true),
  ("IsGiven", "place", true), ("NotGiven", "place", true), ("NoGift", "", false), ("Lost", "number", true), ("Busy", "", false), ("TooManyEdits", "", false), ("NothingToUndo", "", false),
  ("NothingToRedo", "", false), ("BadEdits", "", false), ("BadEdit", "index", true), ("Rejected", "index", true)]
def mkX (a : D) (t : Str × Str × Bool) : D := .exc t.1 t.2.1 (if t.2.2 then [a] else [])
def chk (k : Nat) (t : Str × Str × Bool) : Bool := exN.contains t.1 && (decide (exC.map (fun y => tabV y t.1) = (List.range 19).map fun j => decide (j = k)) && (!tabV "LookupError" t.1 && (tabV "PlayError" t.1 && tabV "ValueError" t.1)))
theorem exT_chk : ((List.range 19).all fun k => (exT[k]?).any (chk k)) = true := by decide +kernel
theorem exT_ok {k : Nat} (hk : k < 19) : ∃ t, exT[k]? = some t ∧ exN.contains t.1 = true ∧ exC.map (fun y => tabV y t.1) = ((List.range 19).map fun j => decide (j = k)) ∧ tabV "LookupError" t.1 = false ∧ tabV "PlayError" t.1 = true ∧ tabV "ValueError" t.1 = true := by
  have h := List.all_eq_true.mp exT_chk k (List.mem_range.mpr hk)
  obtain ⟨t, ht, h⟩ := PySem.W.any_some h
  simp only [chk, Bool.and_eq_true, decide_eq_true_eq, Bool.not_eq_true'] at h
  exact ⟨t, ht, h.1, h.2.1, h.2.2.1, h.2.2.2.1, h.2.2.2.2⟩
/-! ### loops -/
theorem for_inv {st : Option (Nat × List D)} {g : FG} {b : FS} {I : DEnv → Sto → Prop} (hst : ∀ δ S, I δ S → stOk st S) : ∀ (xs : List D) (δ : DEnv) (S : Sto), I δ S →
    (∀ x ∈ xs, ∀ δ S, I δ S → ∃ δ1 S1 δ2 S2, g x δ S = some (δ1, S1) ∧ b δ1 S1 = some (.nx δ2, S2) ∧ I δ2 S2) → ∃ δ' S', forF st g b xs δ S = some (.nx δ', S') ∧ I δ' S'
  | [], δ, S, h, _ => ⟨δ, S, forF_nil (hst _ _ h), h⟩
  | x :: xs, δ, S, h, hx => by
    obtain ⟨δ1, S1, δ2, S2, e1, e2, h2⟩ := hx x List.mem_cons_self δ S h
    obtain ⟨δ3, S3, e3, h3⟩ := for_inv hst xs δ2 S2 h2 (fun y hy => hx y (List.mem_cons_of_mem _ hy))
    exact ⟨δ3, S3, by rw [forF_cons (hst _ _ h), e1, forK_1, e2, forK2_1, e3], h3⟩
theorem lc_e {st : Option (Nat × List D)} {i l : Nat} {e : FE} {g : D → D} {δ : DEnv} {S0 : Sto} (hl : S0.length ≤ l) (hst : ∀ S, Ext S0 S → stOk st S) : ∀ (xs : List D) (S : Sto) (acc : List D), Ext S0 S → S[l]? = some (.lst acc) → acc.length + xs.length < 100000 →
    (∀ x ∈ xs, ∀ S, Ext S0 S → e (δ.set i (some x)) S = some (g x, S)) → lcF st i l fYes e xs δ S = some (.loc l, S.set l (.lst (acc ++ xs.map g)))
  | [], S, acc, x0, h, _, _ => by
    have he := (List.getElem?_eq_some_iff.mp h).2
    rw [lcF_nil (hst _ x0), List.map_nil, List.append_nil, ← he, List.set_getElem_self]
  | x :: xs, S, acc, x0, h, hz, he => by
    rw [List.length_cons] at hz
    have hlt : l < S.length := (List.getElem?_eq_some_iff.mp h).1
    have x1 : Ext S0 (S.set l (.lst (acc ++ [g x]))) := by
      obtain ⟨z, rfl⟩ := x0
      exact ⟨z.set (l - S0.length) (.lst (acc ++ [g x])), by rw [List.set_append_right (h := hl)]⟩
    have e1 := lc_e hl hst xs (S.set l (.lst (acc ++ [g x]))) (acc ++ [g x]) x1 (by rw [List.getElem?_set_self hlt]) (by rw [List.length_append, List.length_singleton]; omega) (fun y hy => he y (List.mem_cons_of_mem _ hy))
    rw [List.set_set] at e1
    have ha : acc.length < 100000 := by omega
    rw [lcF_cons (hst _ x0)]
    simp [he x List.mem_cons_self S x0, h, ha, e1]
theorem lc_e0 {st : Option (Nat × List D)} {i : Nat} {e : FE} {g : D → D} {δ : DEnv} {S : Sto} (hst : ∀ S', Ext S S' → stOk st S') (xs : List D) (hz : xs.length < 100000) (he : ∀ x ∈ xs, ∀ S', Ext S S' → e (δ.set i (some x)) S' = some (g x, S')) :
    lcF st i S.length fYes e xs δ (S ++ [.lst []]) = some (.loc S.length, S ++ [.lst (xs.map g)]) := by
  rw [lc_e (Nat.le_refl _) hst xs _ [] ⟨_, rfl⟩ (by simp) (by simpa using hz) he, List.set_append_right (h := Nat.le_refl _)]
  simp
/-! ### one error of the nineteen -/
noncomputable abbrev kT1 : FS := (fsSeq (fsIf (fOr (fTest (fOp oNeB (fCall f_kinds (fCons (fOp oIx (fVar 1) (fVar 2)) fNil)) (fLc (fiRng1 (fCons (fC (.int 19)) fNil)) 4 fYes (fOp (oEq id) (fVar 4) (fVar 2))))) (fTest (fIsE (tabOf "LookupError") (fOp oIx (fVar 1) (fVar 2))))) (fsRet (fC (.bl false))) fsNext)
    (fsIf (fOr (fNot (fTest (fIsE (tabOf "PlayError") (fOp oIx (fVar 1) (fVar 2))))) (fNot (fTest (fIsE (tabOf "ValueError") (fOp oIx (fVar 1) (fVar 2)))))) (fsRet (fC (.bl false))) fsNext))
theorem kT1_ok {a : D} {L k : Nat} {S : Sto} (hk : k < 19) (hL : S[L]? = some (.lst (exT.map (mkX a)))) : ∃ S', kT1 [some a, some (.loc L), some (.int k), none, none] S = some (.nx [some a, some (.loc L), some (.int k), none, none], S') ∧ Ext S S' := by
  obtain ⟨t, ht, h1, h2, h3, h4, h5⟩ := exT_ok hk
  have hat : atI (exT.map (mkX a)) (k : Int) = some (mkX a t) := atI_nat (by rw [List.getElem?_map, ht]; rfl)
  have hds : (if t.2.2 = true then [a] else []).length ≤ 1 := by split <;> simp
  obtain ⟨l, z, e1, e2⟩ := kinds_ok (f := t.2.1) (ds := if t.2.2 = true then [a] else []) h1 hds S
  have hlc := lc_e0 (st := none) (i := 4) (e := fOp (oEq id) (fVar 4) (fVar 2)) (g := fun x => match x with | .int j => .bl (decide (j = (k : Int))) | _ => .non) (δ := [some a, some (.loc L), some (.int k), none, none]) (S := S ++ z) (fun _ _ => trivial)
    (rangeD 0 19) (by simp [rangeD]) (fun x hx S' _ => by
      unfold rangeD at hx
      obtain ⟨j, _, rfl⟩ := List.mem_map.mp hx
      simp
      try rfl)
  have em : (rangeD 0 19).map (fun x => match x with | .int j => D.bl (decide (j = (k : Int))) | _ => .non) = ((List.range 19).map fun j => decide (j = k)).map D.bl := by
    unfold rangeD
    rw [List.map_map, List.map_map]
    apply List.map_congr_left
    intro j _
    simp
    omega
  rw [em] at hlc
  have hL2 : ((S ++ z) ++ [Ob.lst (((List.range 19).map fun j => decide (j = k)).map D.bl)])[L]? = some (.lst (exT.map (mkX a))) := (Ext.at ⟨z ++ [_], by rw [List.append_assoc]⟩ hL)
  have hl2 : ((S ++ z) ++ [Ob.lst (((List.range 19).map fun j => decide (j = k)).map D.bl)])[l]? = some (.lst (((List.range 19).map fun j => decide (j = k)).map D.bl)) := by
    rw [← h2] at hlc ⊢
    exact Ext.at ⟨_, rfl⟩ e2
  have hl3 : ((S ++ z) ++ [Ob.lst (((List.range 19).map fun j => decide (j = k)).map D.bl)])[(S ++ z).length]? = some (.lst (((List.range 19).map fun j => decide (j = k)).map D.bl)) := by simp
  generalize hS3 : (S ++ z) ++ [Ob.lst (((List.range 19).map fun j => decide (j = k)).map D.bl)] = S3 at hlc hL2 hl2 hl3
  have hne : oNeB (.loc l) (.loc (S ++ z).length) S3 = some (.bl false, S3) := by
    show (match S3[l]?, S3[(S ++ z).length]? with | some (.lst a), some (.lst b) => (asBls a).bind fun ys => (asBls b).bind fun zs => some (D.bl (!decide (ys = zs)), S3) | _, _ => none) = _
    rw [hl2, hl3]
    show (asBls _).bind _ = _
    rw [asBls_map]
    simp
  refine ⟨S3, ?_, ⟨z ++ [_], by rw [← hS3, List.append_assoc]⟩⟩
  have hm : mkX a t = .exc t.1 t.2.1 (if t.2.2 = true then [a] else []) := rfl
  simp only [List.length_append, List.append_assoc] at hlc hne
  clear ht
  generalize exT.map (mkX a) = xs at hat hL hL2
  rw [hm] at hat
  generalize (if t.2.2 = true then [a] else []) = ds at hat e1 hds
  simp [kT1, hL, hat, e1, hlc, hne, hL2, tabOf_1 h1, h3, h4, h5, hds]
end K00

set_option Elab.async false
set_option linter.all false
set_option maxRecDepth 100000
set_option maxHeartbeats 4000000
namespace K00
open PySem L2 DL PG PyProof.Rows
theorem loop1 {a : D} {L : Nat} {S : Sto} (hL : S[L]? = some (.lst (exT.map (mkX a)))) : ∃ x2 S', forF none (fgName 2) kT1 (rangeD 0 19) [some a, some (.loc L), none, none, none] S = some (.nx [some a, some (.loc L), x2, none, none], S') ∧ Ext S S' := by
  obtain ⟨δ', S', e, ⟨x2, rfl⟩, _, x⟩ := for_inv (st := none) (g := fgName 2) (b := kT1) (I := fun δ S1 => (∃ x2, δ = [some a, some (.loc L), x2, none, none]) ∧ S1[L]? = some (.lst (exT.map (mkX a))) ∧ Ext S S1) (fun _ _ _ => trivial)
    (rangeD 0 19) [some a, some (.loc L), none, none, none] S ⟨⟨none, rfl⟩, hL, .refl S⟩ (fun y hy δ S1 h => by
      obtain ⟨⟨x2, rfl⟩, h1, h2⟩ := h
      unfold rangeD at hy
      obtain ⟨k, hk, rfl⟩ := List.mem_map.mp hy
      have hk' : k < 19 := List.mem_range.mp hk
      obtain ⟨S2, e2, e3⟩ := kT1_ok hk' h1
      refine ⟨[some a, some (.loc L), some (.int k), none, none], S1, _, S2, by simp, e2, ⟨some (.int k), rfl⟩, e3.at h1, h2.trans e3⟩)
  exact ⟨x2, S', e, x⟩
noncomputable abbrev kT2 : FS := (fsIf (fTest (fOp oInB (fC (.bl true)) (fCall f_kinds (fCons (fVar 3) fNil)))) (fsRet (fC (.bl false))) fsNext)
noncomputable abbrev kT3 : FS := (fsIf (fOr (fNot (fTest (fIsE (tabOf "LookupError") (fVar 3)))) (fOr (fTest (fIsE (tabOf "ValueError") (fVar 3))) (fTest (fIsE (tabOf "PlayError") (fVar 3))))) (fsRet (fC (.bl false))) fsNext)
abbrev it2 (a : D) : List D := [.exc "NoPlace" "place" [a], .exc "NoVersion" "version" [a], .exc "PlayError" "" []]
abbrev it3 (a : D) : List D := [.exc "NoPlace" "place" [a], .exc "NoVersion" "version" [a]]
theorem kT2_ok {x f : Str} {ds : List D} {a y1 y2 : Option D} {S : Sto} (hx : exN.contains x = true) (hd : ds.length ≤ 1) (ht : ((exC.map fun y => tabV y x).any (· == true)) = false) :
    ∃ S', kT2 [a, y1, y2, some (.exc x f ds), none] S = some (.nx [a, y1, y2, some (.exc x f ds), none], S') ∧ Ext S S' := by
  obtain ⟨l, z, e1, e2⟩ := kinds_ok (f := f) hx hd S
  have hin : oInB (.bl true) (.loc l) (S ++ z) = some (.bl false, S ++ z) := by
    show (match (S ++ z)[l]? with | some (.lst ds) => (asBls ds).map fun (ys : List Bool) => (D.bl (ys.any (· == true)), S ++ z) | _ => none) = _
    rw [e2]
    show (asBls _).map _ = _
    rw [asBls_map]
    show some (D.bl ((exC.map fun y => tabV y x).any (· == true)), S ++ z) = _
    rw [ht]
  exact ⟨S ++ z, by simp [kT2, e1, hin], ⟨z, rfl⟩⟩
theorem loop2 {a : D} {y1 y2 : Option D} {L : Nat} {S : Sto} (hL : S[L]? = some (.lst (it2 a))) : ∃ x3 S', forF (some (L, it2 a)) (fgName 3) kT2 (it2 a) [some a, y1, y2, none, none] S = some (.nx [some a, y1, y2, x3, none], S') ∧ Ext S S' := by
  obtain ⟨δ', S', e, ⟨x2, rfl⟩, _, x⟩ := for_inv (st := some (L, it2 a)) (g := fgName 3) (b := kT2) (I := fun δ S1 => (∃ x2, δ = [some a, y1, y2, x2, none]) ∧ S1[L]? = some (.lst (it2 a)) ∧ Ext S S1) (fun _ _ h => h.2.1)
    (it2 a) [some a, y1, y2, none, none] S ⟨⟨none, rfl⟩, hL, .refl S⟩ (fun y hy δ S1 h => by
      obtain ⟨⟨x2, rfl⟩, h1, h2⟩ := h
      have key : ∃ x f ds, y = .exc x f ds ∧ exN.contains x = true ∧ ds.length ≤ 1 ∧ ((exC.map fun z => tabV z x).any (· == true)) = false := by
        simp only [it2, List.mem_cons, List.not_mem_nil, or_false] at hy
        rcases hy with rfl | rfl | rfl
        · exact ⟨_, _, _, rfl, by decide +kernel, by simp, by decide +kernel⟩
        · exact ⟨_, _, _, rfl, by decide +kernel, by simp, by decide +kernel⟩
        · exact ⟨_, _, _, rfl, by decide +kernel, by simp, by decide +kernel⟩
      obtain ⟨x, f, ds, rfl, k1, k2, k3⟩ := key
      obtain ⟨S2, e2, e3⟩ := kT2_ok (f := f) (a := some a) (y1 := y1) (y2 := y2) (S := S1) k1 k2 k3
      exact ⟨_, S1, _, S2, by simp, e2, ⟨_, rfl⟩, e3.at h1, h2.trans e3⟩)
  exact ⟨x2, S', e, x⟩
theorem tb1 : tabOf "LookupError" "NoPlace" = some true ∧ tabOf "ValueError" "NoPlace" = some false ∧ tabOf "PlayError" "NoPlace" = some false := by decide +kernel
theorem tb2 : tabOf "LookupError" "NoVersion" = some true ∧ tabOf "ValueError" "NoVersion" = some false ∧ tabOf "PlayError" "NoVersion" = some false := by decide +kernel
theorem tb3 : tabOf "LookupError" "PlayError" = some false ∧ tabOf "ValueError" "PlayError" = some true := by decide +kernel
theorem tb4 : tabOf "NoVersion" "NoPlace" = some false ∧ tabOf "NoPlace" "NoVersion" = some false := by decide +kernel
theorem loop3 {a : D} {y1 y2 y3 : Option D} {L : Nat} {S : Sto} (hL : S[L]? = some (.lst (it3 a))) : ∃ x3, forF (some (L, it3 a)) (fgName 3) kT3 (it3 a) [some a, y1, y2, y3, none] S = some (.nx [some a, y1, y2, x3, none], S) := by
  obtain ⟨δ', S', e, ⟨x2, rfl⟩, rfl⟩ := for_inv (st := some (L, it3 a)) (g := fgName 3) (b := kT3) (I := fun δ S1 => (∃ x2, δ = [some a, y1, y2, x2, none]) ∧ S1 = S) (fun _ _ h => by rw [h.2]; exact hL)
    (it3 a) [some a, y1, y2, y3, none] S ⟨⟨y3, rfl⟩, rfl⟩ (fun y hy δ S1 h => by
      obtain ⟨⟨x2, rfl⟩, rfl⟩ := h
      simp only [it3, List.mem_cons, List.not_mem_nil, or_false] at hy
      rcases hy with rfl | rfl
      · exact ⟨[some a, y1, y2, some (.exc "NoPlace" "place" [a]), none], S1, [some a, y1, y2, some (.exc "NoPlace" "place" [a]), none], S1, by simp, by simp [kT3, tb1.1, tb1.2.1, tb1.2.2], ⟨_, rfl⟩, rfl⟩
      · exact ⟨[some a, y1, y2, some (.exc "NoVersion" "version" [a]), none], S1, [some a, y1, y2, some (.exc "NoVersion" "version" [a]), none], S1, by simp, by simp [kT3, tb2.1, tb2.2.1, tb2.2.2], ⟨_, rfl⟩, rfl⟩)
  exact ⟨x2, e⟩
noncomputable def f_kinds_right : Fn := fDef 1 5 (b__law_kinds_right f_kinds)
theorem kinds_right_ok (a : D) (S : Sto) : ∃ S', f_kinds_right [a] S = some (.bl true, S') ∧ Ext S S' := by
  let S1 : Sto := S ++ [.lst ((exT.take 8).map (mkX a)), .lst (((exT.drop 8).take 7).map (mkX a)), .lst ((exT.take 15).map (mkX a)), .lst ((exT.drop 15).map (mkX a)), .lst (exT.map (mkX a))]
  obtain ⟨x2, S2, e1, x1⟩ := loop1 (a := a) (L := S.length + 4) (S := S1) (by simp [S1])
  obtain ⟨x3, S3, e2, x4⟩ := loop2 (a := a) (y1 := some (.loc (S.length + 4))) (y2 := x2) (L := S2.length) (S := S2 ++ [.lst (it2 a)]) (by simp)
  obtain ⟨x5, e3⟩ := loop3 (a := a) (y1 := some (.loc (S.length + 4))) (y2 := x2) (y3 := x3) (L := S3.length) (S := S3 ++ [.lst (it3 a)]) (by simp)
  refine ⟨S3 ++ [.lst (it3 a)], ?_, ?_⟩
  · simp [S1, exT, mkX] at e1
    simp [f_kinds_right, fDef, b__law_kinds_right, e1, e2, e3, tb3.1, tb3.2, tb4.1, tb4.2]
  · exact ((Ext.trans ⟨_, rfl⟩ x1).trans ((Ext.trans ⟨_, rfl⟩ x4))).trans ⟨_, rfl⟩
end K00

set_option Elab.async false
set_option linter.all false
set_option maxRecDepth 100000
set_option maxHeartbeats 4000000
namespace K00
open PySem L2 DL PG PyProof.Rows
noncomputable def f_fields : Fn := fDef 1 3 b__law_fields_right
theorem fields_ok {a : D} {S : Sto} (h : Shw S a) : ∃ S', f_fields [a] S = some (.bl true, S') ∧ Ext S S' := by
  obtain ⟨p, hp⟩ := h
  let S1 : Sto := S ++ [.lst [a, a, a, a, a], .lst [a, a, a, a, a], .lst [a, a, a, a, a, a, a, a, a, a], .lst [a, a, a, a], .lst [a, a, a, a, a, a, a, a, a, a, a, a, a, a]]
  have x1 : Ext S S1 := ⟨_, rfl⟩
  have hL : S1[S.length + 4]? = some (.lst [a, a, a, a, a, a, a, a, a, a, a, a, a, a]) := by simp [S1]
  have hlc := lc_e0 (st := some (S.length + 4, [a, a, a, a, a, a, a, a, a, a, a, a, a, a])) (i := 2) (e := fCB bReprD (fCons (fVar 2) fNil)) (g := fun _ => .str p.shown) (δ := [some a, some (.loc (S.length + 4)), none]) (S := S1) (fun S' x => x.at hL)
    [a, a, a, a, a, a, a, a, a, a, a, a, a, a] (by simp) (fun x hx S' x2 => by
      have hxa : x = a := by simpa using hx
      subst hxa
      simp [bReprD_eq (hp S' (x1.trans x2))])
  have hr : ∀ z, bReprD [a] (S ++ z) = some (.str p.shown, S ++ z) := fun z => bReprD_eq (hp _ ⟨z, rfl⟩)
  simp [S1] at hlc
  generalize p.shown = w at hlc hr
  refine ⟨S ++ [.lst [a, a, a, a, a], .lst [a, a, a, a, a], .lst [a, a, a, a, a, a, a, a, a, a], .lst [a, a, a, a], .lst [a, a, a, a, a, a, a, a, a, a, a, a, a, a], .lst [.str w, .str w, .str w, .str w, .str w, .str w, .str w, .str w, .str w, .str w, .str w, .str w, .str w, .str w], .lst [.str w], .lst [.str w, .str w, .str w, .str w, .str w, .str w, .str w, .str w, .str w, .str w, .str w, .str w, .str w, .str w]], ?_, ⟨_, rfl⟩⟩
  simp [f_fields, fDef, b__law_fields_right, hlc, hr, oMul, oEqS]
end K00

set_option Elab.async false
set_option linter.all false
set_option maxRecDepth 100000
set_option maxHeartbeats 4000000
namespace K00
open PySem L2 DL PG PyProof.Rows
noncomputable def f_bounds : Fn := fDef 0 1 b__law_bounds
abbrev bnds : List Int := [8, 8, 3, 2, 6, 24, 30, 4, 2, 2, 3, 1000000, 60, 20, 60, 60]
theorem bounds_ok (S : Sto) : ∃ l z, f_bounds [] S = some (.loc l, S ++ z) ∧ (S ++ z)[l]? = some (.lst (bnds.map D.int)) := by
  refine ⟨S.length + 4, [.lst [.int 8, .int 8, .int 3, .int 2, .int 6, .int 24, .int 30, .int 4, .int 2], .lst [.int 2, .int 3, .int 1000000, .int 60, .int 20],
    .lst [.int 8, .int 8, .int 3, .int 2, .int 6, .int 24, .int 30, .int 4, .int 2, .int 2, .int 3, .int 1000000, .int 60, .int 20], .lst [.int 60, .int 60], .lst (bnds.map D.int)], ?_, by simp⟩
  simp [f_bounds, fDef, b__law_bounds]
theorem bnds_py {S : Sto} : ∀ ns : List Int, PyQA S (ns.map D.int) (ns.map PyData.int)
  | [] => .nil
  | n :: ns => .cons (.int n) (bnds_py ns)
theorem bnds_shows {S : Sto} {l : Nat} (h : S[l]? = some (.lst (bnds.map D.int))) : ShowsD S (.loc l) (.list (bnds.map PyData.int)) :=
  shows_mk (.lst h (bnds_py bnds)) (by decide +kernel) (by decide +kernel) (by decide +kernel) (by decide +kernel)
noncomputable abbrev kT : FS := (fsSeq (fsAsg (fCall f_value (fCons (fVar 1) fNil)) (fgName 3))
    (fsIf (fOr (fNot (fTest (fCall f_kinds_right (fCons (fVar 3) fNil)))) (fNot (fTest (fCall f_fields (fCons (fVar 3) fNil))))) (fsRet (fC (.bl false))) fsNext))
theorem turn_ok {x0 x2 x3 : Option D} {i j : Nat} {m : Int} {S : Sto} (hd : Dk S i j m) (hm : m + 2 < B) : ∃ y S', kT [x0, some (.loc i), x2, x3] S = some (.nx [x0, some (.loc i), x2, y], S') ∧ Dk S' i j (m + 2) := by
  obtain ⟨a, S1, e1, d1, s1⟩ := value_ok hd hm
  obtain ⟨S2, e2, x2'⟩ := kinds_right_ok a S1
  have s2 : Shw S2 a := by
    obtain ⟨p, hp⟩ := s1
    exact ⟨p, fun S3 x => hp S3 (x2'.trans x)⟩
  obtain ⟨S3, e3, x3'⟩ := fields_ok s2
  exact ⟨some a, S3, by simp [kT, e1, e2, e3], (d1.ext x2').ext x3'⟩
theorem loop_ok {x0 : Option D} {i j : Nat} : ∀ (xs : List D) (x2 x3 : Option D) (m : Int) (S : Sto), Dk S i j m → m + 2 * (xs.length : Int) < B → ∃ y2 y3 S', forF none (fgName 2) kT xs [x0, some (.loc i), x2, x3] S = some (.nx [x0, some (.loc i), y2, y3], S')
  | [], x2, x3, m, S, _, _ => ⟨x2, x3, S, by simp⟩
  | x :: xs, x2, x3, m, S, hd, hm => by
    have e : ((x :: xs).length : Int) = (xs.length : Int) + 1 := by simp
    rw [e] at hm
    have h0 : (0 : Int) ≤ (xs.length : Int) := Int.natCast_nonneg _
    obtain ⟨y, S1, e1, d1⟩ := turn_ok (x0 := x0) (x2 := some x) (x3 := x3) hd (by omega)
    obtain ⟨y2, y3, S2, e2⟩ := loop_ok (x0 := x0) xs (some x) y (m + 2) S1 d1 (by omega)
    refine ⟨y2, y3, S2, ?_⟩
    have eg : fgName 2 x [x0, some (D.loc i), x2, x3] S = some ([x0, some (D.loc i), some x, x3], S) := by simp
    rw [forF_cons0, eg, forK_1, e1, forK2_1, e2]
noncomputable def f_law : Fn := fDef 1 4 (b_law f_bounds f_kinds_right f_fields f_value f_deck)
theorem law_ok {ns : List Int} {S : Sto} (h : ns.length ≤ 63) : ∃ S', f_law [.scr ns] S = some (.bl true, S') := by
  have hB : B = 1000000000000 := rfl
  obtain ⟨S1, e1, d1, _⟩ := deck_ok (S := S) h
  obtain ⟨y2, y3, S2, e2⟩ := loop_ok (x0 := some (.scr ns)) (rangeD 0 4) none none 0 S1 d1 (by simp [rangeD]; omega)
  obtain ⟨l, z, e3, e4⟩ := bounds_ok S2
  have r1 := bReprD_eq (bnds_shows e4)
  have p1 : oI CPow (fun i j => D.int (i ^ j.toNat)) (.int 10) (.int 6) (S2 ++ z) = some (.int 1000000, S2 ++ z) := oI_int (g := fun i j => D.int (i ^ j.toNat)) ⟨by decide, by decide, by decide⟩
  have e5 : (S2 ++ z ++ [.lst (bnds.map D.int)])[S2.length + z.length]? = some (.lst (bnds.map D.int)) := by
    rw [← List.length_append]; simp
  have r2 := bReprD_eq (bnds_shows e5)
  generalize (PyData.list (bnds.map PyData.int)).shown = w at r1 r2
  simp [bnds] at r2
  refine ⟨S2 ++ z ++ [.lst (bnds.map D.int)], ?_⟩
  simp [f_law, fDef, b_law, e1, e2, e3, r1, p1, r2, bnds]
end K00

set_option Elab.async false
set_option linter.all false
set_option maxRecDepth 100000
set_option maxHeartbeats 4000000
namespace K00
open PySem L2 DL PG
theorem sc_C_BadText : FnScope ["self", "line"] ["self", "line"] (defScope st_C_BadText) := ⟨rfl, rfl, rfl, by decide +kernel, rfl, by decide +kernel, by decide +kernel⟩
theorem sc_C_BadProgram : FnScope ["self", "error"] ["self", "error"] (defScope st_C_BadProgram) := ⟨rfl, rfl, rfl, by decide +kernel, rfl, by decide +kernel, by decide +kernel⟩
theorem sc_C_BadGift : FnScope ["self", "value"] ["self", "value"] (defScope st_C_BadGift) := ⟨rfl, rfl, rfl, by decide +kernel, rfl, by decide +kernel, by decide +kernel⟩
theorem sc_C_BadNumber : FnScope ["self", "number"] ["self", "number"] (defScope st_C_BadNumber) := ⟨rfl, rfl, rfl, by decide +kernel, rfl, by decide +kernel, by decide +kernel⟩
theorem sc_C_BadTurns : FnScope ["self", "turns"] ["self", "turns"] (defScope st_C_BadTurns) := ⟨rfl, rfl, rfl, by decide +kernel, rfl, by decide +kernel, by decide +kernel⟩
theorem sc_C_BadRows : FnScope ["self", "index"] ["self", "index"] (defScope st_C_BadRows) := ⟨rfl, rfl, rfl, by decide +kernel, rfl, by decide +kernel, by decide +kernel⟩
theorem sc_C_NotTheirs : FnScope ["self", "place"] ["self", "place"] (defScope st_C_NotTheirs) := ⟨rfl, rfl, rfl, by decide +kernel, rfl, by decide +kernel, by decide +kernel⟩
theorem sc_C_IsGiven : FnScope ["self", "place"] ["self", "place"] (defScope st_C_IsGiven) := ⟨rfl, rfl, rfl, by decide +kernel, rfl, by decide +kernel, by decide +kernel⟩
theorem sc_C_NotGiven : FnScope ["self", "place"] ["self", "place"] (defScope st_C_NotGiven) := ⟨rfl, rfl, rfl, by decide +kernel, rfl, by decide +kernel, by decide +kernel⟩
theorem sc_C_Lost : FnScope ["self", "number"] ["self", "number"] (defScope st_C_Lost) := ⟨rfl, rfl, rfl, by decide +kernel, rfl, by decide +kernel, by decide +kernel⟩
theorem sc_C_BadEdit : FnScope ["self", "index"] ["self", "index"] (defScope st_C_BadEdit) := ⟨rfl, rfl, rfl, by decide +kernel, rfl, by decide +kernel, by decide +kernel⟩
theorem sc_C_Rejected : FnScope ["self", "index"] ["self", "index"] (defScope st_C_Rejected) := ⟨rfl, rfl, rfl, by decide +kernel, rfl, by decide +kernel, by decide +kernel⟩
theorem sc_C_NoPlace : FnScope ["self", "place"] ["self", "place"] (defScope st_C_NoPlace) := ⟨rfl, rfl, rfl, by decide +kernel, rfl, by decide +kernel, by decide +kernel⟩
theorem sc_C_NoVersion : FnScope ["self", "version"] ["self", "version"] (defScope st_C_NoVersion) := ⟨rfl, rfl, rfl, by decide +kernel, rfl, by decide +kernel, by decide +kernel⟩
structure Tops (K : PySem.W.Frag) (mg : Str → Option Value) (al : List (Str × Addr)) : Prop where
  B : Blt mg
  C : Cst K mg
  KC : Kcs K mg
  FM : Fam K al
  d__law_deck : Dfn K mg "_law_deck" st__law_deck ["_law_script"]
  d__law_draw : Dfn K mg "_law_draw" st__law_draw ["_law_deck_here", "_law_many"]
  d__law_one : Dfn K mg "_law_one" st__law_one ["_law_deck_here", "_law_items"]
  d__law_value : Dfn K mg "_law_value" st__law_value ["_law_deck_here"]
  d__law_kinds : Dfn K mg "_law_kinds" st__law_kinds ["_law_e"]
  d__law_kinds_right : Dfn K mg "_law_kinds_right" st__law_kinds_right ["_law_a"]
  d__law_fields_right : Dfn K mg "_law_fields_right" st__law_fields_right ["_law_a"]
  d__law_bounds : Dfn K mg "_law_bounds" st__law_bounds []
  e_BadText : ∃ C, ErF K mg "BadText" "BadText.__init__" "line" "line" st_C_BadText C ∧ (("BadText", C) : Str × Addr) ∈ al
  e_BadProgram : ∃ C, ErF K mg "BadProgram" "BadProgram.__init__" "error" "error" st_C_BadProgram C ∧ (("BadProgram", C) : Str × Addr) ∈ al
  e_BadGift : ∃ C, ErF K mg "BadGift" "BadGift.__init__" "value" "value" st_C_BadGift C ∧ (("BadGift", C) : Str × Addr) ∈ al
  e_BadNumber : ∃ C, ErF K mg "BadNumber" "BadNumber.__init__" "number" "number" st_C_BadNumber C ∧ (("BadNumber", C) : Str × Addr) ∈ al
  e_BadTurns : ∃ C, ErF K mg "BadTurns" "BadTurns.__init__" "turns" "turns" st_C_BadTurns C ∧ (("BadTurns", C) : Str × Addr) ∈ al
  e_BadRows : ∃ C, ErF K mg "BadRows" "BadRows.__init__" "index" "index" st_C_BadRows C ∧ (("BadRows", C) : Str × Addr) ∈ al
  e_NotParted : ∃ C, ErB K mg "NotParted" C ∧ (("NotParted", C) : Str × Addr) ∈ al
  e_NotTheirs : ∃ C, ErF K mg "NotTheirs" "NotTheirs.__init__" "place" "place" st_C_NotTheirs C ∧ (("NotTheirs", C) : Str × Addr) ∈ al
  e_IsGiven : ∃ C, ErF K mg "IsGiven" "IsGiven.__init__" "place" "place" st_C_IsGiven C ∧ (("IsGiven", C) : Str × Addr) ∈ al
  e_NotGiven : ∃ C, ErF K mg "NotGiven" "NotGiven.__init__" "place" "place" st_C_NotGiven C ∧ (("NotGiven", C) : Str × Addr) ∈ al
  e_NoGift : ∃ C, ErB K mg "NoGift" C ∧ (("NoGift", C) : Str × Addr) ∈ al
  e_Lost : ∃ C, ErF K mg "Lost" "Lost.__init__" "number" "number" st_C_Lost C ∧ (("Lost", C) : Str × Addr) ∈ al
  e_Busy : ∃ C, ErB K mg "Busy" C ∧ (("Busy", C) : Str × Addr) ∈ al
  e_TooManyEdits : ∃ C, ErB K mg "TooManyEdits" C ∧ (("TooManyEdits", C) : Str × Addr) ∈ al
  e_NothingToUndo : ∃ C, ErB K mg "NothingToUndo" C ∧ (("NothingToUndo", C) : Str × Addr) ∈ al
  e_NothingToRedo : ∃ C, ErB K mg "NothingToRedo" C ∧ (("NothingToRedo", C) : Str × Addr) ∈ al
  e_BadEdits : ∃ C, ErB K mg "BadEdits" C ∧ (("BadEdits", C) : Str × Addr) ∈ al
  e_BadEdit : ∃ C, ErF K mg "BadEdit" "BadEdit.__init__" "index" "index" st_C_BadEdit C ∧ (("BadEdit", C) : Str × Addr) ∈ al
  e_Rejected : ∃ C, ErF K mg "Rejected" "Rejected.__init__" "index" "index" st_C_Rejected C ∧ (("Rejected", C) : Str × Addr) ∈ al
  e_PlayError : ∃ C, ErB K mg "PlayError" C ∧ (("PlayError", C) : Str × Addr) ∈ al
  e_NoPlace : ∃ C, ErF K mg "NoPlace" "NoPlace.__init__" "place" "place" st_C_NoPlace C ∧ (("NoPlace", C) : Str × Addr) ∈ al
  e_NoVersion : ∃ C, ErF K mg "NoVersion" "NoVersion.__init__" "version" "version" st_C_NoVersion C ∧ (("NoVersion", C) : Str × Addr) ∈ al
theorem c_law_of {K : PySem.W.Frag} : ∀ vs H Q E, toSp K c_law vs H Q E → toSp K (toC f_law) vs H Q E := by
  rintro vs H Q E ⟨m, S, ds, Q', R, r, ⟨ns, rfl, hl, hq⟩, ct⟩
  obtain ⟨S2, e⟩ := K00.law_ok (S := S) hl
  exact ⟨m, S, _, Q', R, r, ⟨_, e, hq S2⟩, ct⟩
theorem law_top {P : Program} {w : World} {K : PySem.W.Frag} {mg : Str → Option Value} {al : List (Str × Addr)} {base : Heap} (T : Tops K mg al) (hsy : HasSys base) {f : Addr} {fd : FuncData} (F : Fun K "law" "law" st_law f fd) : FnG P w K mg base CX0 5 f fd ["_law_script"] (toSp K c_law) := by
  have B := T.B
  have C := T.C
  have KC := T.KC
  have FM := T.FM
  obtain ⟨C_BadText, E_BadText, M_BadText⟩ := T.e_BadText
  have V_BadText : ErA P w K mg base 1 "BadText" "line" C_BadText := E_BadText.a sc_C_BadText rfl (by first | exact Or.inl rfl | exact Or.inr (Or.inl rfl) | exact Or.inr (Or.inr rfl)) (by first | exact Or.inl rfl | exact Or.inr (Or.inl rfl) | exact Or.inr (Or.inr rfl)) (by decide +kernel) (by decide +kernel) (fun _ _ => rfl)
  have U_BadText : ErN mg al "BadText" C_BadText := ⟨E_BadText.mgx, M_BadText⟩
  obtain ⟨C_BadProgram, E_BadProgram, M_BadProgram⟩ := T.e_BadProgram
  have V_BadProgram : ErA P w K mg base 1 "BadProgram" "error" C_BadProgram := E_BadProgram.a sc_C_BadProgram rfl (by first | exact Or.inl rfl | exact Or.inr (Or.inl rfl) | exact Or.inr (Or.inr rfl)) (by first | exact Or.inl rfl | exact Or.inr (Or.inl rfl) | exact Or.inr (Or.inr rfl)) (by decide +kernel) (by decide +kernel) (fun _ _ => rfl)
  have U_BadProgram : ErN mg al "BadProgram" C_BadProgram := ⟨E_BadProgram.mgx, M_BadProgram⟩
  obtain ⟨C_BadGift, E_BadGift, M_BadGift⟩ := T.e_BadGift
  have V_BadGift : ErA P w K mg base 1 "BadGift" "value" C_BadGift := E_BadGift.a sc_C_BadGift rfl (by first | exact Or.inl rfl | exact Or.inr (Or.inl rfl) | exact Or.inr (Or.inr rfl)) (by first | exact Or.inl rfl | exact Or.inr (Or.inl rfl) | exact Or.inr (Or.inr rfl)) (by decide +kernel) (by decide +kernel) (fun _ _ => rfl)
  have U_BadGift : ErN mg al "BadGift" C_BadGift := ⟨E_BadGift.mgx, M_BadGift⟩
  obtain ⟨C_BadNumber, E_BadNumber, M_BadNumber⟩ := T.e_BadNumber
  have V_BadNumber : ErA P w K mg base 1 "BadNumber" "number" C_BadNumber := E_BadNumber.a sc_C_BadNumber rfl (by first | exact Or.inl rfl | exact Or.inr (Or.inl rfl) | exact Or.inr (Or.inr rfl)) (by first | exact Or.inl rfl | exact Or.inr (Or.inl rfl) | exact Or.inr (Or.inr rfl)) (by decide +kernel) (by decide +kernel) (fun _ _ => rfl)
  have U_BadNumber : ErN mg al "BadNumber" C_BadNumber := ⟨E_BadNumber.mgx, M_BadNumber⟩
  obtain ⟨C_BadTurns, E_BadTurns, M_BadTurns⟩ := T.e_BadTurns
  have V_BadTurns : ErA P w K mg base 1 "BadTurns" "turns" C_BadTurns := E_BadTurns.a sc_C_BadTurns rfl (by first | exact Or.inl rfl | exact Or.inr (Or.inl rfl) | exact Or.inr (Or.inr rfl)) (by first | exact Or.inl rfl | exact Or.inr (Or.inl rfl) | exact Or.inr (Or.inr rfl)) (by decide +kernel) (by decide +kernel) (fun _ _ => rfl)
  have U_BadTurns : ErN mg al "BadTurns" C_BadTurns := ⟨E_BadTurns.mgx, M_BadTurns⟩
  obtain ⟨C_BadRows, E_BadRows, M_BadRows⟩ := T.e_BadRows
  have V_BadRows : ErA P w K mg base 1 "BadRows" "index" C_BadRows := E_BadRows.a sc_C_BadRows rfl (by first | exact Or.inl rfl | exact Or.inr (Or.inl rfl) | exact Or.inr (Or.inr rfl)) (by first | exact Or.inl rfl | exact Or.inr (Or.inl rfl) | exact Or.inr (Or.inr rfl)) (by decide +kernel) (by decide +kernel) (fun _ _ => rfl)
  have U_BadRows : ErN mg al "BadRows" C_BadRows := ⟨E_BadRows.mgx, M_BadRows⟩
  obtain ⟨C_NotParted, V_NotParted, M_NotParted⟩ := T.e_NotParted
  have U_NotParted : ErN mg al "NotParted" C_NotParted := ⟨V_NotParted.mgx, M_NotParted⟩
  obtain ⟨C_NotTheirs, E_NotTheirs, M_NotTheirs⟩ := T.e_NotTheirs
  have V_NotTheirs : ErA P w K mg base 1 "NotTheirs" "place" C_NotTheirs := E_NotTheirs.a sc_C_NotTheirs rfl (by first | exact Or.inl rfl | exact Or.inr (Or.inl rfl) | exact Or.inr (Or.inr rfl)) (by first | exact Or.inl rfl | exact Or.inr (Or.inl rfl) | exact Or.inr (Or.inr rfl)) (by decide +kernel) (by decide +kernel) (fun _ _ => rfl)
  have U_NotTheirs : ErN mg al "NotTheirs" C_NotTheirs := ⟨E_NotTheirs.mgx, M_NotTheirs⟩
  obtain ⟨C_IsGiven, E_IsGiven, M_IsGiven⟩ := T.e_IsGiven
  have V_IsGiven : ErA P w K mg base 1 "IsGiven" "place" C_IsGiven := E_IsGiven.a sc_C_IsGiven rfl (by first | exact Or.inl rfl | exact Or.inr (Or.inl rfl) | exact Or.inr (Or.inr rfl)) (by first | exact Or.inl rfl | exact Or.inr (Or.inl rfl) | exact Or.inr (Or.inr rfl)) (by decide +kernel) (by decide +kernel) (fun _ _ => rfl)
  have U_IsGiven : ErN mg al "IsGiven" C_IsGiven := ⟨E_IsGiven.mgx, M_IsGiven⟩
  obtain ⟨C_NotGiven, E_NotGiven, M_NotGiven⟩ := T.e_NotGiven
  have V_NotGiven : ErA P w K mg base 1 "NotGiven" "place" C_NotGiven := E_NotGiven.a sc_C_NotGiven rfl (by first | exact Or.inl rfl | exact Or.inr (Or.inl rfl) | exact Or.inr (Or.inr rfl)) (by first | exact Or.inl rfl | exact Or.inr (Or.inl rfl) | exact Or.inr (Or.inr rfl)) (by decide +kernel) (by decide +kernel) (fun _ _ => rfl)
  have U_NotGiven : ErN mg al "NotGiven" C_NotGiven := ⟨E_NotGiven.mgx, M_NotGiven⟩
  obtain ⟨C_NoGift, V_NoGift, M_NoGift⟩ := T.e_NoGift
  have U_NoGift : ErN mg al "NoGift" C_NoGift := ⟨V_NoGift.mgx, M_NoGift⟩
  obtain ⟨C_Lost, E_Lost, M_Lost⟩ := T.e_Lost
  have V_Lost : ErA P w K mg base 1 "Lost" "number" C_Lost := E_Lost.a sc_C_Lost rfl (by first | exact Or.inl rfl | exact Or.inr (Or.inl rfl) | exact Or.inr (Or.inr rfl)) (by first | exact Or.inl rfl | exact Or.inr (Or.inl rfl) | exact Or.inr (Or.inr rfl)) (by decide +kernel) (by decide +kernel) (fun _ _ => rfl)
  have U_Lost : ErN mg al "Lost" C_Lost := ⟨E_Lost.mgx, M_Lost⟩
  obtain ⟨C_Busy, V_Busy, M_Busy⟩ := T.e_Busy
  have U_Busy : ErN mg al "Busy" C_Busy := ⟨V_Busy.mgx, M_Busy⟩
  obtain ⟨C_TooManyEdits, V_TooManyEdits, M_TooManyEdits⟩ := T.e_TooManyEdits
  have U_TooManyEdits : ErN mg al "TooManyEdits" C_TooManyEdits := ⟨V_TooManyEdits.mgx, M_TooManyEdits⟩
  obtain ⟨C_NothingToUndo, V_NothingToUndo, M_NothingToUndo⟩ := T.e_NothingToUndo
  have U_NothingToUndo : ErN mg al "NothingToUndo" C_NothingToUndo := ⟨V_NothingToUndo.mgx, M_NothingToUndo⟩
  obtain ⟨C_NothingToRedo, V_NothingToRedo, M_NothingToRedo⟩ := T.e_NothingToRedo
  have U_NothingToRedo : ErN mg al "NothingToRedo" C_NothingToRedo := ⟨V_NothingToRedo.mgx, M_NothingToRedo⟩
  obtain ⟨C_BadEdits, V_BadEdits, M_BadEdits⟩ := T.e_BadEdits
  have U_BadEdits : ErN mg al "BadEdits" C_BadEdits := ⟨V_BadEdits.mgx, M_BadEdits⟩
  obtain ⟨C_BadEdit, E_BadEdit, M_BadEdit⟩ := T.e_BadEdit
  have V_BadEdit : ErA P w K mg base 1 "BadEdit" "index" C_BadEdit := E_BadEdit.a sc_C_BadEdit rfl (by first | exact Or.inl rfl | exact Or.inr (Or.inl rfl) | exact Or.inr (Or.inr rfl)) (by first | exact Or.inl rfl | exact Or.inr (Or.inl rfl) | exact Or.inr (Or.inr rfl)) (by decide +kernel) (by decide +kernel) (fun _ _ => rfl)
  have U_BadEdit : ErN mg al "BadEdit" C_BadEdit := ⟨E_BadEdit.mgx, M_BadEdit⟩
  obtain ⟨C_Rejected, E_Rejected, M_Rejected⟩ := T.e_Rejected
  have V_Rejected : ErA P w K mg base 1 "Rejected" "index" C_Rejected := E_Rejected.a sc_C_Rejected rfl (by first | exact Or.inl rfl | exact Or.inr (Or.inl rfl) | exact Or.inr (Or.inr rfl)) (by first | exact Or.inl rfl | exact Or.inr (Or.inl rfl) | exact Or.inr (Or.inr rfl)) (by decide +kernel) (by decide +kernel) (fun _ _ => rfl)
  have U_Rejected : ErN mg al "Rejected" C_Rejected := ⟨E_Rejected.mgx, M_Rejected⟩
  obtain ⟨C_PlayError, V_PlayError, M_PlayError⟩ := T.e_PlayError
  have U_PlayError : ErN mg al "PlayError" C_PlayError := ⟨V_PlayError.mgx, M_PlayError⟩
  obtain ⟨C_NoPlace, E_NoPlace, M_NoPlace⟩ := T.e_NoPlace
  have V_NoPlace : ErA P w K mg base 1 "NoPlace" "place" C_NoPlace := E_NoPlace.a sc_C_NoPlace rfl (by first | exact Or.inl rfl | exact Or.inr (Or.inl rfl) | exact Or.inr (Or.inr rfl)) (by first | exact Or.inl rfl | exact Or.inr (Or.inl rfl) | exact Or.inr (Or.inr rfl)) (by decide +kernel) (by decide +kernel) (fun _ _ => rfl)
  have U_NoPlace : ErN mg al "NoPlace" C_NoPlace := ⟨E_NoPlace.mgx, M_NoPlace⟩
  obtain ⟨C_NoVersion, E_NoVersion, M_NoVersion⟩ := T.e_NoVersion
  have V_NoVersion : ErA P w K mg base 1 "NoVersion" "version" C_NoVersion := E_NoVersion.a sc_C_NoVersion rfl (by first | exact Or.inl rfl | exact Or.inr (Or.inl rfl) | exact Or.inr (Or.inr rfl)) (by first | exact Or.inl rfl | exact Or.inr (Or.inl rfl) | exact Or.inr (Or.inr rfl)) (by decide +kernel) (by decide +kernel) (fun _ _ => rfl)
  have U_NoVersion : ErN mg al "NoVersion" C_NoVersion := ⟨E_NoVersion.mgx, M_NoVersion⟩
  obtain ⟨a__law_deck, e__law_deck, F__law_deck, m__law_deck, b__law_deck⟩ := T.d__law_deck.ex
  have D__law_deck : DefD P w K mg base 1 "_law_deck" 1 (toC f_deck) := ok__law_deck (k := 0) F__law_deck m__law_deck b__law_deck B
  obtain ⟨a__law_draw, e__law_draw, F__law_draw, m__law_draw, b__law_draw⟩ := T.d__law_draw.ex
  have D__law_draw : DefD P w K mg base 1 "_law_draw" 2 (toC f_draw) := ok__law_draw (k := 0) F__law_draw m__law_draw b__law_draw B
  obtain ⟨a__law_one, e__law_one, F__law_one, m__law_one, b__law_one⟩ := T.d__law_one.ex
  have D__law_one : DefD P w K mg base 2 "_law_one" 2 (toC f_one) := ok__law_one (k := 1) F__law_one m__law_one b__law_one B (D__law_draw.mono (by decide))
  obtain ⟨a__law_value, e__law_value, F__law_value, m__law_value, b__law_value⟩ := T.d__law_value.ex
  have D__law_value : DefD P w K mg base 3 "_law_value" 1 (toC f_value) := ok__law_value (k := 2) F__law_value m__law_value b__law_value B (D__law_one.mono (by decide)) (D__law_draw.mono (by decide))
  obtain ⟨a__law_kinds, e__law_kinds, F__law_kinds, m__law_kinds, b__law_kinds⟩ := T.d__law_kinds.ex
  have D__law_kinds : DefD P w K mg base 1 "_law_kinds" 1 (toC f_kinds) := ok__law_kinds (k := 0) F__law_kinds m__law_kinds b__law_kinds B FM U_BadEdit U_Rejected U_NothingToUndo U_NothingToRedo U_BadEdits U_Lost U_Busy U_TooManyEdits U_NotTheirs U_IsGiven U_NotGiven U_NoGift U_BadTurns U_BadRows U_NotParted U_BadText U_BadProgram U_BadGift U_BadNumber
  obtain ⟨a__law_kinds_right, e__law_kinds_right, F__law_kinds_right, m__law_kinds_right, b__law_kinds_right⟩ := T.d__law_kinds_right.ex
  have D__law_kinds_right : DefD P w K mg base 4 "_law_kinds_right" 1 (toC f_kinds_right) := ok__law_kinds_right (k := 3) F__law_kinds_right m__law_kinds_right b__law_kinds_right B (by decide) FM V_NoPlace V_NoVersion V_PlayError V_NothingToRedo V_BadEdits V_BadEdit V_Rejected V_IsGiven V_NotGiven V_NoGift V_Lost V_Busy V_TooManyEdits V_NothingToUndo V_BadText V_BadProgram V_BadGift V_BadNumber V_BadTurns V_BadRows V_NotParted V_NotTheirs U_NoVersion U_NoPlace U_PlayError (D__law_kinds.mono (by decide))
  obtain ⟨a__law_fields_right, e__law_fields_right, F__law_fields_right, m__law_fields_right, b__law_fields_right⟩ := T.d__law_fields_right.ex
  have D__law_fields_right : DefD P w K mg base 4 "_law_fields_right" 1 (toC f_fields) := ok__law_fields_right (k := 3) hsy F__law_fields_right m__law_fields_right b__law_fields_right B (by decide) V_BadEdit V_Rejected V_NoPlace V_NoVersion V_BadRows V_NotTheirs V_IsGiven V_NotGiven V_Lost V_BadText V_BadProgram V_BadGift V_BadNumber V_BadTurns
  obtain ⟨a__law_bounds, e__law_bounds, F__law_bounds, m__law_bounds, b__law_bounds⟩ := T.d__law_bounds.ex
  have D__law_bounds : DefD P w K mg base 1 "_law_bounds" 0 (toC f_bounds) := ok__law_bounds (k := 0) F__law_bounds m__law_bounds b__law_bounds C KC
  have D : FnG P w K mg base CX0 5 f fd ["_law_script"] (toSp K (toC f_law)) := fn_law (k := 4) hsy F B (D__law_bounds.mono (by decide)) (D__law_kinds_right.mono (by decide)) (D__law_fields_right.mono (by decide)) (D__law_value.mono (by decide)) (D__law_deck.mono (by decide))
  exact D.imp c_law_of
end K00


set_option Elab.async false
set_option linter.all false
set_option maxRecDepth 100000
set_option maxHeartbeats 4000000
namespace K00
open PySem L2 DL
theorem bn__law_deck (kV doc pm : Value) (an : Option Addr) (cdv ct : Value) (us : List Value) (hl : us.length = (["_law_script"] : List Str).length) : bindArgs (PySem.W.fnOf "_law_deck" "_law_deck" (defArgs st__law_deck) (defBody st__law_deck) (defScope st__law_deck) Value.none kV doc pm an cdv ct) { pos := us } = pure ((["_law_script"] : List Str).zip us) := match us, hl with | [_], _ => rfl
theorem bn__law_draw (kV doc pm : Value) (an : Option Addr) (cdv ct : Value) (us : List Value) (hl : us.length = (["_law_deck_here", "_law_many"] : List Str).length) : bindArgs (PySem.W.fnOf "_law_draw" "_law_draw" (defArgs st__law_draw) (defBody st__law_draw) (defScope st__law_draw) Value.none kV doc pm an cdv ct) { pos := us } = pure ((["_law_deck_here", "_law_many"] : List Str).zip us) := match us, hl with | [_, _], _ => rfl
theorem bn__law_one (kV doc pm : Value) (an : Option Addr) (cdv ct : Value) (us : List Value) (hl : us.length = (["_law_deck_here", "_law_items"] : List Str).length) : bindArgs (PySem.W.fnOf "_law_one" "_law_one" (defArgs st__law_one) (defBody st__law_one) (defScope st__law_one) Value.none kV doc pm an cdv ct) { pos := us } = pure ((["_law_deck_here", "_law_items"] : List Str).zip us) := match us, hl with | [_, _], _ => rfl
theorem bn__law_value (kV doc pm : Value) (an : Option Addr) (cdv ct : Value) (us : List Value) (hl : us.length = (["_law_deck_here"] : List Str).length) : bindArgs (PySem.W.fnOf "_law_value" "_law_value" (defArgs st__law_value) (defBody st__law_value) (defScope st__law_value) Value.none kV doc pm an cdv ct) { pos := us } = pure ((["_law_deck_here"] : List Str).zip us) := match us, hl with | [_], _ => rfl
theorem bn__law_kinds (kV doc pm : Value) (an : Option Addr) (cdv ct : Value) (us : List Value) (hl : us.length = (["_law_e"] : List Str).length) : bindArgs (PySem.W.fnOf "_law_kinds" "_law_kinds" (defArgs st__law_kinds) (defBody st__law_kinds) (defScope st__law_kinds) Value.none kV doc pm an cdv ct) { pos := us } = pure ((["_law_e"] : List Str).zip us) := match us, hl with | [_], _ => rfl
theorem bn__law_kinds_right (kV doc pm : Value) (an : Option Addr) (cdv ct : Value) (us : List Value) (hl : us.length = (["_law_a"] : List Str).length) : bindArgs (PySem.W.fnOf "_law_kinds_right" "_law_kinds_right" (defArgs st__law_kinds_right) (defBody st__law_kinds_right) (defScope st__law_kinds_right) Value.none kV doc pm an cdv ct) { pos := us } = pure ((["_law_a"] : List Str).zip us) := match us, hl with | [_], _ => rfl
theorem bn__law_fields_right (kV doc pm : Value) (an : Option Addr) (cdv ct : Value) (us : List Value) (hl : us.length = (["_law_a"] : List Str).length) : bindArgs (PySem.W.fnOf "_law_fields_right" "_law_fields_right" (defArgs st__law_fields_right) (defBody st__law_fields_right) (defScope st__law_fields_right) Value.none kV doc pm an cdv ct) { pos := us } = pure ((["_law_a"] : List Str).zip us) := match us, hl with | [_], _ => rfl
theorem bn__law_bounds (kV doc pm : Value) (an : Option Addr) (cdv ct : Value) (us : List Value) (hl : us.length = ([] : List Str).length) : bindArgs (PySem.W.fnOf "_law_bounds" "_law_bounds" (defArgs st__law_bounds) (defBody st__law_bounds) (defScope st__law_bounds) Value.none kV doc pm an cdv ct) { pos := us } = pure (([] : List Str).zip us) := match us, hl with | [], _ => rfl
theorem bn_law (kV doc pm : Value) (an : Option Addr) (cdv ct u : Value) : bindArgs (PySem.W.fnOf "law" "law" (defArgs st_law) (defBody st_law) (defScope st_law) Value.none kV doc pm an cdv ct) { pos := [u] } = pure [(("_law_script" : Str), u)] := rfl
theorem bn_C_BadText (kV doc pm : Value) (an : Option Addr) (cdv ct : Value) (us : List Value) (hl : us.length = (["self", "line"] : List Str).length) : bindArgs (PySem.W.fnOf "__init__" "BadText.__init__" (defArgs st_C_BadText) (defBody st_C_BadText) (defScope st_C_BadText) Value.none kV doc pm an cdv ct) { pos := us } = pure ((["self", "line"] : List Str).zip us) := match us, hl with | [_, _], _ => rfl
theorem bn_C_BadProgram (kV doc pm : Value) (an : Option Addr) (cdv ct : Value) (us : List Value) (hl : us.length = (["self", "error"] : List Str).length) : bindArgs (PySem.W.fnOf "__init__" "BadProgram.__init__" (defArgs st_C_BadProgram) (defBody st_C_BadProgram) (defScope st_C_BadProgram) Value.none kV doc pm an cdv ct) { pos := us } = pure ((["self", "error"] : List Str).zip us) := match us, hl with | [_, _], _ => rfl
theorem bn_C_BadGift (kV doc pm : Value) (an : Option Addr) (cdv ct : Value) (us : List Value) (hl : us.length = (["self", "value"] : List Str).length) : bindArgs (PySem.W.fnOf "__init__" "BadGift.__init__" (defArgs st_C_BadGift) (defBody st_C_BadGift) (defScope st_C_BadGift) Value.none kV doc pm an cdv ct) { pos := us } = pure ((["self", "value"] : List Str).zip us) := match us, hl with | [_, _], _ => rfl
theorem bn_C_BadNumber (kV doc pm : Value) (an : Option Addr) (cdv ct : Value) (us : List Value) (hl : us.length = (["self", "number"] : List Str).length) : bindArgs (PySem.W.fnOf "__init__" "BadNumber.__init__" (defArgs st_C_BadNumber) (defBody st_C_BadNumber) (defScope st_C_BadNumber) Value.none kV doc pm an cdv ct) { pos := us } = pure ((["self", "number"] : List Str).zip us) := match us, hl with | [_, _], _ => rfl
theorem bn_C_BadTurns (kV doc pm : Value) (an : Option Addr) (cdv ct : Value) (us : List Value) (hl : us.length = (["self", "turns"] : List Str).length) : bindArgs (PySem.W.fnOf "__init__" "BadTurns.__init__" (defArgs st_C_BadTurns) (defBody st_C_BadTurns) (defScope st_C_BadTurns) Value.none kV doc pm an cdv ct) { pos := us } = pure ((["self", "turns"] : List Str).zip us) := match us, hl with | [_, _], _ => rfl
theorem bn_C_BadRows (kV doc pm : Value) (an : Option Addr) (cdv ct : Value) (us : List Value) (hl : us.length = (["self", "index"] : List Str).length) : bindArgs (PySem.W.fnOf "__init__" "BadRows.__init__" (defArgs st_C_BadRows) (defBody st_C_BadRows) (defScope st_C_BadRows) Value.none kV doc pm an cdv ct) { pos := us } = pure ((["self", "index"] : List Str).zip us) := match us, hl with | [_, _], _ => rfl
theorem bn_C_NotTheirs (kV doc pm : Value) (an : Option Addr) (cdv ct : Value) (us : List Value) (hl : us.length = (["self", "place"] : List Str).length) : bindArgs (PySem.W.fnOf "__init__" "NotTheirs.__init__" (defArgs st_C_NotTheirs) (defBody st_C_NotTheirs) (defScope st_C_NotTheirs) Value.none kV doc pm an cdv ct) { pos := us } = pure ((["self", "place"] : List Str).zip us) := match us, hl with | [_, _], _ => rfl
theorem bn_C_IsGiven (kV doc pm : Value) (an : Option Addr) (cdv ct : Value) (us : List Value) (hl : us.length = (["self", "place"] : List Str).length) : bindArgs (PySem.W.fnOf "__init__" "IsGiven.__init__" (defArgs st_C_IsGiven) (defBody st_C_IsGiven) (defScope st_C_IsGiven) Value.none kV doc pm an cdv ct) { pos := us } = pure ((["self", "place"] : List Str).zip us) := match us, hl with | [_, _], _ => rfl
theorem bn_C_NotGiven (kV doc pm : Value) (an : Option Addr) (cdv ct : Value) (us : List Value) (hl : us.length = (["self", "place"] : List Str).length) : bindArgs (PySem.W.fnOf "__init__" "NotGiven.__init__" (defArgs st_C_NotGiven) (defBody st_C_NotGiven) (defScope st_C_NotGiven) Value.none kV doc pm an cdv ct) { pos := us } = pure ((["self", "place"] : List Str).zip us) := match us, hl with | [_, _], _ => rfl
theorem bn_C_Lost (kV doc pm : Value) (an : Option Addr) (cdv ct : Value) (us : List Value) (hl : us.length = (["self", "number"] : List Str).length) : bindArgs (PySem.W.fnOf "__init__" "Lost.__init__" (defArgs st_C_Lost) (defBody st_C_Lost) (defScope st_C_Lost) Value.none kV doc pm an cdv ct) { pos := us } = pure ((["self", "number"] : List Str).zip us) := match us, hl with | [_, _], _ => rfl
theorem bn_C_BadEdit (kV doc pm : Value) (an : Option Addr) (cdv ct : Value) (us : List Value) (hl : us.length = (["self", "index"] : List Str).length) : bindArgs (PySem.W.fnOf "__init__" "BadEdit.__init__" (defArgs st_C_BadEdit) (defBody st_C_BadEdit) (defScope st_C_BadEdit) Value.none kV doc pm an cdv ct) { pos := us } = pure ((["self", "index"] : List Str).zip us) := match us, hl with | [_, _], _ => rfl
theorem bn_C_Rejected (kV doc pm : Value) (an : Option Addr) (cdv ct : Value) (us : List Value) (hl : us.length = (["self", "index"] : List Str).length) : bindArgs (PySem.W.fnOf "__init__" "Rejected.__init__" (defArgs st_C_Rejected) (defBody st_C_Rejected) (defScope st_C_Rejected) Value.none kV doc pm an cdv ct) { pos := us } = pure ((["self", "index"] : List Str).zip us) := match us, hl with | [_, _], _ => rfl
theorem bn_C_NoPlace (kV doc pm : Value) (an : Option Addr) (cdv ct : Value) (us : List Value) (hl : us.length = (["self", "place"] : List Str).length) : bindArgs (PySem.W.fnOf "__init__" "NoPlace.__init__" (defArgs st_C_NoPlace) (defBody st_C_NoPlace) (defScope st_C_NoPlace) Value.none kV doc pm an cdv ct) { pos := us } = pure ((["self", "place"] : List Str).zip us) := match us, hl with | [_, _], _ => rfl
theorem bn_C_NoVersion (kV doc pm : Value) (an : Option Addr) (cdv ct : Value) (us : List Value) (hl : us.length = (["self", "version"] : List Str).length) : bindArgs (PySem.W.fnOf "__init__" "NoVersion.__init__" (defArgs st_C_NoVersion) (defBody st_C_NoVersion) (defScope st_C_NoVersion) Value.none kV doc pm an cdv ct) { pos := us } = pure ((["self", "version"] : List Str).zip us) := match us, hl with | [_, _], _ => rfl
theorem tops_of {K : PySem.W.Frag} {h : Heap} {mg : Str → Option Value} (X : K.In h) (G : h.Ns mainGlobals mg) (c : He.SaysE fa fn K) (e : ex K = true) : Tops K mg (alK K) := by
  unfold ex at e
  obtain ⟨x0, e⟩ := Bool.and_eq_true_iff.mp e
  obtain ⟨x1, e⟩ := Bool.and_eq_true_iff.mp e
  obtain ⟨x2, e⟩ := Bool.and_eq_true_iff.mp e
  obtain ⟨x3, e⟩ := Bool.and_eq_true_iff.mp e
  obtain ⟨x4, e⟩ := Bool.and_eq_true_iff.mp e
  obtain ⟨x5, e⟩ := Bool.and_eq_true_iff.mp e
  obtain ⟨x6, e⟩ := Bool.and_eq_true_iff.mp e
  obtain ⟨x7, e⟩ := Bool.and_eq_true_iff.mp e
  obtain ⟨x8, e⟩ := Bool.and_eq_true_iff.mp e
  obtain ⟨x9, e⟩ := Bool.and_eq_true_iff.mp e
  obtain ⟨x10, e⟩ := Bool.and_eq_true_iff.mp e
  obtain ⟨x11, e⟩ := Bool.and_eq_true_iff.mp e
  obtain ⟨x12, e⟩ := Bool.and_eq_true_iff.mp e
  obtain ⟨x13, e⟩ := Bool.and_eq_true_iff.mp e
  obtain ⟨x14, e⟩ := Bool.and_eq_true_iff.mp e
  obtain ⟨x15, e⟩ := Bool.and_eq_true_iff.mp e
  obtain ⟨x16, e⟩ := Bool.and_eq_true_iff.mp e
  obtain ⟨x17, e⟩ := Bool.and_eq_true_iff.mp e
  obtain ⟨x18, e⟩ := Bool.and_eq_true_iff.mp e
  obtain ⟨x19, e⟩ := Bool.and_eq_true_iff.mp e
  obtain ⟨x20, e⟩ := Bool.and_eq_true_iff.mp e
  obtain ⟨x21, e⟩ := Bool.and_eq_true_iff.mp e
  obtain ⟨x22, e⟩ := Bool.and_eq_true_iff.mp e
  obtain ⟨x23, e⟩ := Bool.and_eq_true_iff.mp e
  have F := fam_of x0
  refine ⟨?B, ?Cc, ⟨kc_of X G x23, kc_of X G e⟩, F, ?d__law_deck, ?d__law_draw, ?d__law_one, ?d__law_value, ?d__law_kinds, ?d__law_kinds_right, ?d__law_fields_right, ?d__law_bounds, ?e_BadText, ?e_BadProgram, ?e_BadGift, ?e_BadNumber, ?e_BadTurns, ?e_BadRows, ?e_NotParted, ?e_NotTheirs, ?e_IsGiven, ?e_NotGiven, ?e_NoGift, ?e_Lost, ?e_Busy, ?e_TooManyEdits, ?e_NothingToUndo, ?e_NothingToRedo, ?e_BadEdits, ?e_BadEdit, ?e_Rejected, ?e_PlayError, ?e_NoPlace, ?e_NoVersion⟩
  case B => exact ⟨He.free_ok X G (c.fact 18), He.free_ok X G (c.fact 19), He.free_ok X G (c.fact 20), He.free_ok X G (c.fact 21), He.free_ok X G (c.fact 22), He.free_ok X G (c.fact 23), He.free_ok X G (c.fact 24), He.free_ok X G (c.fact 25), He.free_ok X G (c.fact 26)⟩
  case Cc => exact ⟨int_of X G (c.fact 27), int_of X G (c.fact 28), int_of X G (c.fact 29), int_of X G (c.fact 30), int_of X G (c.fact 31), int_of X G (c.fact 32), int_of X G (c.fact 33), int_of X G (c.fact 34), int_of X G (c.fact 35), int_of X G (c.fact 36), int_of X G (c.fact 37), int_of X G (c.fact 38), int_of X G (c.fact 39), int_of X G (c.fact 40)⟩
  case d__law_deck => exact dfn_of X G bn__law_deck (c.fact 0) (c.fact 9) (c.def_ 0 (d := D__law_deck))
  case d__law_draw => exact dfn_of X G bn__law_draw (c.fact 1) (c.fact 10) (c.def_ 1 (d := D__law_draw))
  case d__law_one => exact dfn_of X G bn__law_one (c.fact 2) (c.fact 11) (c.def_ 2 (d := D__law_one))
  case d__law_value => exact dfn_of X G bn__law_value (c.fact 3) (c.fact 12) (c.def_ 3 (d := D__law_value))
  case d__law_kinds => exact dfn_of X G bn__law_kinds (c.fact 4) (c.fact 13) (c.def_ 4 (d := D__law_kinds))
  case d__law_kinds_right => exact dfn_of X G bn__law_kinds_right (c.fact 5) (c.fact 14) (c.def_ 5 (d := D__law_kinds_right))
  case d__law_fields_right => exact dfn_of X G bn__law_fields_right (c.fact 6) (c.fact 15) (c.def_ 6 (d := D__law_fields_right))
  case d__law_bounds => exact dfn_of X G bn__law_bounds (c.fact 7) (c.fact 16) (c.def_ 7 (d := D__law_bounds))
  case e_BadText => exact erV_of X G x0 (by decide +kernel) x1 bn_C_BadText (c.def_ 9 (d := D_C_BadText))
  case e_BadProgram => exact erV_of X G x0 (by decide +kernel) x2 bn_C_BadProgram (c.def_ 10 (d := D_C_BadProgram))
  case e_BadGift => exact erV_of X G x0 (by decide +kernel) x3 bn_C_BadGift (c.def_ 11 (d := D_C_BadGift))
  case e_BadNumber => exact erV_of X G x0 (by decide +kernel) x4 bn_C_BadNumber (c.def_ 12 (d := D_C_BadNumber))
  case e_BadTurns => exact erV_of X G x0 (by decide +kernel) x5 bn_C_BadTurns (c.def_ 13 (d := D_C_BadTurns))
  case e_BadRows => exact erV_of X G x0 (by decide +kernel) x6 bn_C_BadRows (c.def_ 14 (d := D_C_BadRows))
  case e_NotParted => exact erB_of X G x0 (by decide +kernel) x7
  case e_NotTheirs => exact erV_of X G x0 (by decide +kernel) x8 bn_C_NotTheirs (c.def_ 15 (d := D_C_NotTheirs))
  case e_IsGiven => exact erV_of X G x0 (by decide +kernel) x9 bn_C_IsGiven (c.def_ 16 (d := D_C_IsGiven))
  case e_NotGiven => exact erV_of X G x0 (by decide +kernel) x10 bn_C_NotGiven (c.def_ 17 (d := D_C_NotGiven))
  case e_NoGift => exact erB_of X G x0 (by decide +kernel) x11
  case e_Lost => exact erV_of X G x0 (by decide +kernel) x12 bn_C_Lost (c.def_ 18 (d := D_C_Lost))
  case e_Busy => exact erB_of X G x0 (by decide +kernel) x13
  case e_TooManyEdits => exact erB_of X G x0 (by decide +kernel) x14
  case e_NothingToUndo => exact erB_of X G x0 (by decide +kernel) x15
  case e_NothingToRedo => exact erB_of X G x0 (by decide +kernel) x16
  case e_BadEdits => exact erB_of X G x0 (by decide +kernel) x17
  case e_BadEdit => exact erV_of X G x0 (by decide +kernel) x18 bn_C_BadEdit (c.def_ 19 (d := D_C_BadEdit))
  case e_Rejected => exact erV_of X G x0 (by decide +kernel) x19 bn_C_Rejected (c.def_ 20 (d := D_C_Rejected))
  case e_PlayError => exact erB_of X G x0 (by decide +kernel) x20
  case e_NoPlace => exact erL_of X G x0 (by decide +kernel) x21 bn_C_NoPlace (c.def_ 21 (d := D_C_NoPlace))
  case e_NoVersion => exact erL_of X G x0 (by decide +kernel) x22 bn_C_NoVersion (c.def_ 22 (d := D_C_NoVersion))
theorem finish {P : Program} {w : World} {K : PySem.W.Frag} {h : Heap} {mg : Str → Option Value} {fa0 : Addr} (X : K.In h) (G : h.Ns mainGlobals mg) (hfa : mg "law" = some (.ref fa0)) (c : He.SaysE fa fn K) (e : ex K = true) :
    ∃ fd : FuncData, (∀ (s : Shared) (u : Value), BindsTo s fd ⟨[u], []⟩ [("_law_script", u)]) ∧ ∀ base : Heap, K.In base → base.Ns mainGlobals mg → HasSys base → FnG P w K mg base CX0 5 fa0 fd ["_law_script"] (toSp K c_law) := by
  obtain ⟨oc, od, osl, kV, doc, pm, an, cdv, ct, l, cc⟩ := c.def_ 8 (d := D_law)
  exact top_mkS X G hfa bn_law (fun f fd F base hsy => law_top (tops_of X G c e) hsy F) (He.eqO_ok (show He.eqO _ _ = true from c.fact 8 (f := .glo "law"))) l cc (c.fact 17 (f := .keep "law"))
end K00


set_option Elab.async false
set_option linter.all false
open PySem PySem.W PySem.Calls PyProof.Rows
set_option maxRecDepth 100000 in
set_option maxHeartbeats 0 in
theorem PySem.Challenge.cw_weandthey_k00_errors_made_by_hand_holds : PySem.Challenge.rw_weandthey_k00_errors_made_by_hand.Holds := by
  w_on; o_law
  refine HandSHeadRun.head_any (r := OpenLaw.row PySem.Challenge.rw_weandthey_k00_errors_made_by_hand) (q := view (OpenLaw.row PySem.Challenge.rw_weandthey_k00_errors_made_by_hand).prog [140]) (H := K00.hk) (ob := K00.ob) (M := 9500) (loose := K00.loose)
    (d := HandSHeadRun.topDef (OpenLaw.row PySem.Challenge.rw_weandthey_k00_errors_made_by_hand).prog 140) (kwd := []) K00.ob_eq (by kernel_rfl) (fun s => by kernel_rfl) K00.run (by kernel_rfl) (by kernel_rfl) (by kernel_rfl) (by rfl)
    (by first | assumption | decide +kernel) (by decide +kernel) ⟨rfl, rfl, rfl, rfl, rfl, by decide +kernel⟩ ?hw ?hc
  case hw => w_witness2
  case hc =>
    refine DL.walkU (hq := by decide +kernel) (l := PySem.Challenge.rw_weandthey_k00_errors_made_by_hand) (k := 5) (x := "_law_script") rfl (by kernel_rfl) ⟨rfl, by decide, by decide⟩ ?F
    intro w mg fa h Y G hmg0
    obtain ⟨K, KX, c, e⟩ := Y
    have hmg : mg ("law" : PySem.Str) = some (.ref fa) := by
      have e : (HandSHeadRun.topDef (OpenLaw.row PySem.Challenge.rw_weandthey_k00_errors_made_by_hand).prog 140).name = ("law" : PySem.Str) := by kernel_rfl
      rw [← e]
      exact hmg0
    obtain ⟨fd, hb, hF⟩ := K00.finish KX G hmg c e
    exact ⟨K, fd, KX, hb, hF⟩
