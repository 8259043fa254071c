import PyProof.Rows.All
import Wide.All
import OpenK.AllK
import Wide.FinOn
import PyProof.EqAt
import PyProof.EqKinds
import PyProof.TupleCall
import KE.BitLaws
import KE.KDictSum
import Open.SpecLaws
import KE.OsHead
import KE.OsGo
import PySem.Challenge.RW_blademould_s01_answers
section
set_option Elab.async false
set_option linter.all false
set_option maxRecDepth 1000000
set_option maxHeartbeats 0
namespace L2
open PySem
def inClass (s : Stmt) (j : Nat) : Stmt := match s with
  | .ClassDef _ _ _ body _ _ _ _ _ _ _ => body.getD j (.Pass ⟨0, 0, 0, 0⟩)
  | _ => .Pass ⟨0, 0, 0, 0⟩
def defArgs (s : Stmt) : Arguments := match s with
  | .FunctionDef _ a _ _ _ _ _ _ _ _ => a
  | _ => { posonlyargs := [], args := [], vararg := none, kwonlyargs := [], kw_defaults := [], kwarg := none, defaults := [] }
def defBody (s : Stmt) : List Stmt := match s with
  | .FunctionDef _ _ b _ _ _ _ _ _ _ => b
  | _ => []
def defScope (s : Stmt) : Scope := match s with
  | .FunctionDef _ _ _ _ _ _ sc _ _ _ => sc
  | _ => { kind := .function, names := [], isGenerator := false, isCoroutine := false }
end L2
namespace Bm
open PySem PySem.Spec PyProof.Rows L2
/-! ### the text by places -/
def top (i : Nat) : Stmt := PySem.Challenge.pw_blademould_s01_answers.main.body.getD i (.Pass ⟨0, 0, 0, 0⟩)
abbrev s_count_ends : Stmt := top 1
abbrev s_runs_lacking : Stmt := top 2
abbrev s_plan_spans : Stmt := top 3
abbrev s_fewest_spans : Stmt := top 4
abbrev s_longest_run : Stmt := top 7
abbrev s_init_Ply : Stmt := inClass (top 8) 0
abbrev s_init_Mould : Stmt := inClass (top 9) 0
abbrev s_begin : Stmt := inClass (top 9) 1
abbrev s_station_count : Stmt := inClass (top 9) 2
abbrev s_is_begun : Stmt := inClass (top 9) 3
abbrev s_has_station : Stmt := inClass (top 9) 4
abbrev s_stack_at : Stmt := inClass (top 9) 5
abbrev s_kinds_at : Stmt := inClass (top 9) 6
abbrev s_alike_at : Stmt := inClass (top 9) 7
abbrev s_layers_at : Stmt := inClass (top 9) 8
abbrev s_missing_at : Stmt := inClass (top 9) 9
abbrev s_lacking : Stmt := inClass (top 9) 10
abbrev s_planned : Stmt := inClass (top 9) 11
abbrev s_planned_fabric : Stmt := inClass (top 9) 12
abbrev s_ends_with : Stmt := inClass (top 9) 13
abbrev s_has_ends_for : Stmt := inClass (top 9) 14
abbrev s_fabric_of : Stmt := inClass (top 9) 15
abbrev s_fabric_in_plies : Stmt := inClass (top 9) 16
abbrev s_least_free_number : Stmt := inClass (top 9) 17
abbrev s_lay_ply : Stmt := inClass (top 9) 18
abbrev s_lift_ply : Stmt := inClass (top 9) 19
abbrev s_swap_plies : Stmt := inClass (top 9) 20
abbrev s_start : Stmt := top 26
abbrev s_set_need : Stmt := top 27
abbrev s_roll : Stmt := top 28
abbrev s_lay : Stmt := top 29
abbrev s_lift : Stmt := top 30
abbrev s_missing : Stmt := top 31
abbrev s_lacks : Stmt := top 32
abbrev s_fewest : Stmt := top 33
abbrev s_plan : Stmt := top 34
abbrev s_goes : Stmt := top 35
abbrev s_fabric : Stmt := top 36
abbrev s_follow : Stmt := top 37
abbrev s_ends : Stmt := top 38
abbrev s_worst : Stmt := top 39
abbrev s_stack : Stmt := top 40
abbrev s_kinds : Stmt := top 41
abbrev s_alike : Stmt := top 42
abbrev s_swap : Stmt := top 43
abbrev s_stock : Stmt := top 44
abbrev s_metres : Stmt := top 45
abbrev s_state : Stmt := top 46
abbrev s_answer_call : Stmt := top 48
abbrev s_end_of_call : Stmt := top 51
abbrev s_answers : Stmt := top 52
end Bm
namespace Bm
open PySem PySem.W PySem.Calls PyProof.Rows
abbrev pw : Program := PySem.Challenge.pw_blademould_s01_answers
def vw : Program := { pw with main := { pw.main with body := [top 1, top 2, top 3, top 4, top 6, top 7, top 8, top 9, top 10, top 11, top 12, top 13, top 14, top 15, top 16, top 17, top 19, top 20, top 21, top 22, top 23, top 24, top 25, top 26, top 27, top 28, top 29, top 30, top 31, top 32, top 33, top 34, top 35, top 36, top 37, top 38, top 39, top 40, top 41, top 42, top 43, top 44, top 45, top 46, top 47, top 48, top 50, top 51, top 52] } }
def Kf (P : Params) : Frag :=
  (nat_lit 3, ({ cls := Value.type "dict", data := Data.dict #[{ hash := PyData.keyHash P (Str.ofString "__name__"), key := Value.str (Str.ofString "__name__") 165, val := Value.str (Str.ofString "blademould.layup") 751 }, { hash := PyData.keyHash P (Str.ofString "__doc__"), key := Value.str (Str.ofString "__doc__") 166, val := Value.none }, { hash := PyData.keyHash P (Str.ofString "__package__"), key := Value.str (Str.ofString "__package__") 167, val := Value.none }, { hash := PyData.keyHash P (Str.ofString "__loader__"), key := Value.str (Str.ofString "__loader__") 168, val := Value.builtin "__main__.__loader__#opaque" }, { hash := PyData.keyHash P (Str.ofString "__spec__"), key := Value.str (Str.ofString "__spec__") 169, val := Value.none }, { hash := PyData.keyHash P (Str.ofString "__annotations__"), key := Value.str (Str.ofString "__annotations__") 170, val := Value.ref 6 }, { hash := PyData.keyHash P (Str.ofString "__builtins__"), key := Value.str (Str.ofString "__builtins__") 171, val := Value.ref 4 }, { hash := PyData.keyHash P (Str.ofString "__file__"), key := Value.str (Str.ofString "__file__") 173, val := Value.str (Str.ofString "/claim/cut.py") 172 }, { hash := PyData.keyHash P (Str.ofString "__cached__"), key := Value.str (Str.ofString "__cached__") 174, val := Value.none }, { hash := PyData.keyHash P (Str.ofString "count_ends"), key := Value.str (Str.ofString "count_ends") 199, val := Value.ref 21 }, { hash := PyData.keyHash P (Str.ofString "runs_lacking"), key := Value.str (Str.ofString "runs_lacking") 211, val := Value.ref 28 }, { hash := PyData.keyHash P (Str.ofString "plan_spans"), key := Value.str (Str.ofString "plan_spans") 220, val := Value.ref 35 }, { hash := PyData.keyHash P (Str.ofString "fewest_spans"), key := Value.str (Str.ofString "fewest_spans") 230, val := Value.ref 42 }, { hash := PyData.keyHash P (Str.ofString "KINDS"), key := Value.str (Str.ofString "KINDS") 234, val := Value.int 4 233 }, { hash := PyData.keyHash P (Str.ofString "longest_run"), key := Value.str (Str.ofString "longest_run") 245, val := Value.ref 49 }, { hash := PyData.keyHash P (Str.ofString "Ply"), key := Value.str (Str.ofString "Ply") 278, val := Value.ref 66 }, { hash := PyData.keyHash P (Str.ofString "Mould"), key := Value.str (Str.ofString "Mould") 463, val := Value.ref 217 }, { hash := PyData.keyHash P (Str.ofString "NO_SUCH_PLY"), key := Value.str (Str.ofString "NO_SUCH_PLY") 466, val := Value.int (-2) 465 }, { hash := PyData.keyHash P (Str.ofString "NOT_STARTED"), key := Value.str (Str.ofString "NOT_STARTED") 469, val := Value.int (-11) 468 }, { hash := PyData.keyHash P (Str.ofString "TOO_LITTLE_FABRIC"), key := Value.str (Str.ofString "TOO_LITTLE_FABRIC") 472, val := Value.int (-12) 471 }, { hash := PyData.keyHash P (Str.ofString "TOO_MANY_ENDS"), key := Value.str (Str.ofString "TOO_MANY_ENDS") 475, val := Value.int (-13) 474 }, { hash := PyData.keyHash P (Str.ofString "TOO_MANY_LAYERS"), key := Value.str (Str.ofString "TOO_MANY_LAYERS") 478, val := Value.int (-16) 477 }, { hash := PyData.keyHash P (Str.ofString "WRONG_NUMBER"), key := Value.str (Str.ofString "WRONG_NUMBER") 481, val := Value.int (-22) 480 }, { hash := PyData.keyHash P (Str.ofString "TOO_MANY_PLIES"), key := Value.str (Str.ofString "TOO_MANY_PLIES") 484, val := Value.int (-28) 483 }, { hash := PyData.keyHash P (Str.ofString "NOTHING_MISSING"), key := Value.str (Str.ofString "NOTHING_MISSING") 487, val := Value.int (-62) 486 }, { hash := PyData.keyHash P (Str.ofString "START"), key := Value.str (Str.ofString "START") 491, val := Value.int 0 490 }, { hash := PyData.keyHash P (Str.ofString "LONGEST"), key := Value.str (Str.ofString "LONGEST") 493, val := Value.int 100 492 }, { hash := PyData.keyHash P (Str.ofString "MOST_ENDS"), key := Value.str (Str.ofString "MOST_ENDS") 495, val := Value.int 20 494 }, { hash := PyData.keyHash P (Str.ofString "MOST_STATIONS"), key := Value.str (Str.ofString "MOST_STATIONS") 497, val := Value.int 12 496 }, { hash := PyData.keyHash P (Str.ofString "MOST_NEEDED"), key := Value.str (Str.ofString "MOST_NEEDED") 499, val := Value.int 12 498 }, { hash := PyData.keyHash P (Str.ofString "MOST_STOCK"), key := Value.str (Str.ofString "MOST_STOCK") 501, val := Value.int 100000 500 }, { hash := PyData.keyHash P (Str.ofString "MOST_PLIES"), key := Value.str (Str.ofString "MOST_PLIES") 503, val := Value.int 40 502 }, { hash := PyData.keyHash P (Str.ofString "start"), key := Value.str (Str.ofString "start") 514, val := Value.ref 228 }, { hash := PyData.keyHash P (Str.ofString "set_need"), key := Value.str (Str.ofString "set_need") 525, val := Value.ref 235 }, { hash := PyData.keyHash P (Str.ofString "roll"), key := Value.str (Str.ofString "roll") 535, val := Value.ref 242 }, { hash := PyData.keyHash P (Str.ofString "lay"), key := Value.str (Str.ofString "lay") 544, val := Value.ref 249 }, { hash := PyData.keyHash P (Str.ofString "lift"), key := Value.str (Str.ofString "lift") 553, val := Value.ref 256 }, { hash := PyData.keyHash P (Str.ofString "missing"), key := Value.str (Str.ofString "missing") 562, val := Value.ref 263 }, { hash := PyData.keyHash P (Str.ofString "lacks"), key := Value.str (Str.ofString "lacks") 570, val := Value.ref 270 }, { hash := PyData.keyHash P (Str.ofString "fewest"), key := Value.str (Str.ofString "fewest") 578, val := Value.ref 277 }, { hash := PyData.keyHash P (Str.ofString "plan"), key := Value.str (Str.ofString "plan") 590, val := Value.ref 284 }, { hash := PyData.keyHash P (Str.ofString "goes"), key := Value.str (Str.ofString "goes") 598, val := Value.ref 291 }, { hash := PyData.keyHash P (Str.ofString "fabric"), key := Value.str (Str.ofString "fabric") 606, val := Value.ref 298 }, { hash := PyData.keyHash P (Str.ofString "follow"), key := Value.str (Str.ofString "follow") 618, val := Value.ref 305 }, { hash := PyData.keyHash P (Str.ofString "ends"), key := Value.str (Str.ofString "ends") 627, val := Value.ref 312 }, { hash := PyData.keyHash P (Str.ofString "worst"), key := Value.str (Str.ofString "worst") 637, val := Value.ref 319 }, { hash := PyData.keyHash P (Str.ofString "stack"), key := Value.str (Str.ofString "stack") 647, val := Value.ref 326 }, { hash := PyData.keyHash P (Str.ofString "kinds"), key := Value.str (Str.ofString "kinds") 653, val := Value.ref 331 }, { hash := PyData.keyHash P (Str.ofString "alike"), key := Value.str (Str.ofString "alike") 662, val := Value.ref 338 }, { hash := PyData.keyHash P (Str.ofString "swap"), key := Value.str (Str.ofString "swap") 672, val := Value.ref 345 }, { hash := PyData.keyHash P (Str.ofString "stock"), key := Value.str (Str.ofString "stock") 681, val := Value.ref 352 }, { hash := PyData.keyHash P (Str.ofString "metres"), key := Value.str (Str.ofString "metres") 689, val := Value.ref 359 }, { hash := PyData.keyHash P (Str.ofString "state"), key := Value.str (Str.ofString "state") 697, val := Value.ref 366 }, { hash := PyData.keyHash P (Str.ofString "CALLS"), key := Value.str (Str.ofString "CALLS") 740, val := Value.ref 367 }, { hash := PyData.keyHash P (Str.ofString "answer_call"), key := Value.str (Str.ofString "answer_call") 750, val := Value.ref 375 }, { hash := PyData.keyHash P (Str.ofString "PLAIN_NUMBERS"), key := Value.str (Str.ofString "PLAIN_NUMBERS") 774, val := Value.ref 376 }, { hash := PyData.keyHash P (Str.ofString "end_of_call"), key := Value.str (Str.ofString "end_of_call") 783, val := Value.ref 383 }, { hash := PyData.keyHash P (Str.ofString "answers"), key := Value.str (Str.ofString "answers") 795, val := Value.ref 390 }] 58 } : Obj)) ::
  (nat_lit 20, ({ cls := Value.type "code", data := Data.fields #[Value.str (Str.ofString "count_ends") 189, Value.str (Str.ofString "count_ends") 190, Value.str (Str.ofString "/claim/cut.py") 191, Value.int 2 0, Value.int 2 0, Value.int 0 0, Value.int 0 0, Value.int 3 0, Value.ref 15, Value.bool true, Value.int 181 0, Value.ref 16, Value.none, Value.ref 17, Value.ref 18, Value.ref 19, Value.int 197 0, Value.int 2 0, Value.str (Str.ofString "/claim/cut.py") 198] } : Obj)) ::
  (nat_lit 21, ({ cls := Value.type "function", dict := none, data := Data.func (fnOf "count_ends" "count_ends" (L2.defArgs s_count_ends) (L2.defBody s_count_ends) (L2.defScope s_count_ends) Value.none (Value.none) (Value.none) (Value.str (Str.ofString "blademould.planning") 187) none (Value.ref 20) (Value.none)) } : Obj)) ::
  (nat_lit 27, ({ cls := Value.type "code", data := Data.fields #[Value.str (Str.ofString "runs_lacking") 200, Value.str (Str.ofString "runs_lacking") 201, Value.str (Str.ofString "/claim/cut.py") 202, Value.int 10 0, Value.int 2 0, Value.int 0 0, Value.int 0 0, Value.int 3 0, Value.ref 22, Value.bool true, Value.int 181 0, Value.ref 23, Value.none, Value.ref 24, Value.ref 25, Value.ref 26, Value.int 209 0, Value.int 10 0, Value.str (Str.ofString "/claim/cut.py") 210] } : Obj)) ::
  (nat_lit 28, ({ cls := Value.type "function", dict := none, data := Data.func (fnOf "runs_lacking" "runs_lacking" (L2.defArgs s_runs_lacking) (L2.defBody s_runs_lacking) (L2.defScope s_runs_lacking) Value.none (Value.none) (Value.none) (Value.str (Str.ofString "blademould.planning") 187) none (Value.ref 27) (Value.none)) } : Obj)) ::
  (nat_lit 34, ({ cls := Value.type "code", data := Data.fields #[Value.str (Str.ofString "plan_spans") 212, Value.str (Str.ofString "plan_spans") 213, Value.str (Str.ofString "/claim/cut.py") 214, Value.int 21 0, Value.int 1 0, Value.int 0 0, Value.int 0 0, Value.int 3 0, Value.ref 29, Value.bool true, Value.int 181 0, Value.ref 30, Value.none, Value.ref 31, Value.ref 32, Value.ref 33, Value.int 218 0, Value.int 21 0, Value.str (Str.ofString "/claim/cut.py") 219] } : Obj)) ::
  (nat_lit 35, ({ cls := Value.type "function", dict := none, data := Data.func (fnOf "plan_spans" "plan_spans" (L2.defArgs s_plan_spans) (L2.defBody s_plan_spans) (L2.defScope s_plan_spans) Value.none (Value.none) (Value.none) (Value.str (Str.ofString "blademould.planning") 187) none (Value.ref 34) (Value.none)) } : Obj)) ::
  (nat_lit 41, ({ cls := Value.type "code", data := Data.fields #[Value.str (Str.ofString "fewest_spans") 221, Value.str (Str.ofString "fewest_spans") 222, Value.str (Str.ofString "/claim/cut.py") 223, Value.int 26 0, Value.int 1 0, Value.int 0 0, Value.int 0 0, Value.int 3 0, Value.ref 36, Value.bool true, Value.int 181 0, Value.ref 37, Value.none, Value.ref 38, Value.ref 39, Value.ref 40, Value.int 228 0, Value.int 26 0, Value.str (Str.ofString "/claim/cut.py") 229] } : Obj)) ::
  (nat_lit 42, ({ cls := Value.type "function", dict := none, data := Data.func (fnOf "fewest_spans" "fewest_spans" (L2.defArgs s_fewest_spans) (L2.defBody s_fewest_spans) (L2.defScope s_fewest_spans) Value.none (Value.none) (Value.none) (Value.str (Str.ofString "blademould.planning") 187) none (Value.ref 41) (Value.none)) } : Obj)) ::
  (nat_lit 48, ({ cls := Value.type "code", data := Data.fields #[Value.str (Str.ofString "longest_run") 235, Value.str (Str.ofString "longest_run") 236, Value.str (Str.ofString "/claim/cut.py") 237, Value.int 35 0, Value.int 1 0, Value.int 0 0, Value.int 0 0, Value.int 3 0, Value.ref 43, Value.bool true, Value.int 181 0, Value.ref 44, Value.none, Value.ref 45, Value.ref 46, Value.ref 47, Value.int 243 0, Value.int 35 0, Value.str (Str.ofString "/claim/cut.py") 244] } : Obj)) ::
  (nat_lit 49, ({ cls := Value.type "function", dict := none, data := Data.func (fnOf "longest_run" "longest_run" (L2.defArgs s_longest_run) (L2.defBody s_longest_run) (L2.defScope s_longest_run) Value.none (Value.none) (Value.none) (Value.str (Str.ofString "blademould.mould") 231) none (Value.ref 48) (Value.none)) } : Obj)) ::
  (nat_lit 62, ({ cls := Value.type "code", data := Data.fields #[Value.str (Str.ofString "__init__") 258, Value.str (Str.ofString "Ply.__init__") 259, Value.str (Str.ofString "/claim/cut.py") 260, Value.int 46 0, Value.int 4 0, Value.int 0 0, Value.int 0 0, Value.int 3 0, Value.ref 57, Value.bool true, Value.int 181 0, Value.ref 58, Value.none, Value.ref 59, Value.ref 60, Value.ref 61, Value.int 265 0, Value.int 46 0, Value.str (Str.ofString "/claim/cut.py") 266] } : Obj)) ::
  (nat_lit 63, ({ cls := Value.type "function", dict := none, data := Data.func (fnOf "__init__" "Ply.__init__" (L2.defArgs s_init_Ply) (L2.defBody s_init_Ply) (L2.defScope s_init_Ply) Value.none (Value.none) (Value.none) (Value.str (Str.ofString "blademould.mould") 231) none (Value.ref 62) (Value.none)) } : Obj)) ::
  (nat_lit 65, ({ cls := Value.type "dict", data := Data.dict #[{ hash := PyData.keyHash P (Str.ofString "__module__"), key := Value.str (Str.ofString "__module__") 253, val := Value.str (Str.ofString "blademould.mould") 231 }, { hash := PyData.keyHash P (Str.ofString "__firstlineno__"), key := Value.str (Str.ofString "__firstlineno__") 257, val := Value.int 44 256 }, { hash := PyData.keyHash P (Str.ofString "__init__"), key := Value.str (Str.ofString "__init__") 267, val := Value.ref 63 }, { hash := PyData.keyHash P (Str.ofString "__static_attributes__"), key := Value.str (Str.ofString "__static_attributes__") 271, val := Value.ref 64 }, { hash := PyData.keyHash P (Str.ofString "__dict__"), key := Value.str (Str.ofString "__dict__") 273, val := Value.ref 67 }, { hash := PyData.keyHash P (Str.ofString "__weakref__"), key := Value.str (Str.ofString "__weakref__") 275, val := Value.ref 68 }, { hash := PyData.keyHash P (Str.ofString "__doc__"), key := Value.str (Str.ofString "__doc__") 276, val := Value.none }] 4 } : Obj)) ::
  (nat_lit 66, ({ cls := Value.type "type", data := Data.cls { name := Str.ofString "Ply", bases := [Value.type "object"], mro := [Value.ref 66, Value.type "object"], ns := 65, qualname := Str.ofString "Ply" }, slots := #[none, none, some (Value.str (Str.ofString "Ply") 246), some (Value.str (Str.ofString "Ply") 254), some (Value.builtin "object.__new__"), some (Value.bool true)] } : Obj)) ::
  (nat_lit 83, ({ cls := Value.type "code", data := Data.fields #[Value.str (Str.ofString "__init__") 291, Value.str (Str.ofString "Mould.__init__") 292, Value.str (Str.ofString "/claim/cut.py") 293, Value.int 52 0, Value.int 1 0, Value.int 0 0, Value.int 0 0, Value.int 3 0, Value.ref 78, Value.bool true, Value.int 181 0, Value.ref 79, Value.none, Value.ref 80, Value.ref 81, Value.ref 82, Value.int 295 0, Value.int 52 0, Value.str (Str.ofString "/claim/cut.py") 296] } : Obj)) ::
  (nat_lit 84, ({ cls := Value.type "function", dict := none, data := Data.func (fnOf "__init__" "Mould.__init__" (L2.defArgs s_init_Mould) (L2.defBody s_init_Mould) (L2.defScope s_init_Mould) Value.none (Value.none) (Value.none) (Value.str (Str.ofString "blademould.mould") 231) none (Value.ref 83) (Value.none)) } : Obj)) ::
  (nat_lit 90, ({ cls := Value.type "code", data := Data.fields #[Value.str (Str.ofString "begin") 298, Value.str (Str.ofString "Mould.begin") 299, Value.str (Str.ofString "/claim/cut.py") 300, Value.int 55 0, Value.int 4 0, Value.int 0 0, Value.int 0 0, Value.int 3 0, Value.ref 85, Value.bool true, Value.int 181 0, Value.ref 86, Value.none, Value.ref 87, Value.ref 88, Value.ref 89, Value.int 305 0, Value.int 55 0, Value.str (Str.ofString "/claim/cut.py") 306] } : Obj)) ::
  (nat_lit 91, ({ cls := Value.type "function", dict := none, data := Data.func (fnOf "begin" "Mould.begin" (L2.defArgs s_begin) (L2.defBody s_begin) (L2.defScope s_begin) Value.none (Value.none) (Value.none) (Value.str (Str.ofString "blademould.mould") 231) none (Value.ref 90) (Value.none)) } : Obj)) ::
  (nat_lit 97, ({ cls := Value.type "code", data := Data.fields #[Value.str (Str.ofString "station_count") 308, Value.str (Str.ofString "Mould.station_count") 309, Value.str (Str.ofString "/claim/cut.py") 310, Value.int 63 0, Value.int 1 0, Value.int 0 0, Value.int 0 0, Value.int 3 0, Value.ref 92, Value.bool true, Value.int 181 0, Value.ref 93, Value.none, Value.ref 94, Value.ref 95, Value.ref 96, Value.int 312 0, Value.int 63 0, Value.str (Str.ofString "/claim/cut.py") 313] } : Obj)) ::
  (nat_lit 98, ({ cls := Value.type "function", dict := none, data := Data.func (fnOf "station_count" "Mould.station_count" (L2.defArgs s_station_count) (L2.defBody s_station_count) (L2.defScope s_station_count) Value.none (Value.none) (Value.none) (Value.str (Str.ofString "blademould.mould") 231) none (Value.ref 97) (Value.none)) } : Obj)) ::
  (nat_lit 104, ({ cls := Value.type "code", data := Data.fields #[Value.str (Str.ofString "is_begun") 315, Value.str (Str.ofString "Mould.is_begun") 316, Value.str (Str.ofString "/claim/cut.py") 317, Value.int 66 0, Value.int 1 0, Value.int 0 0, Value.int 0 0, Value.int 3 0, Value.ref 99, Value.bool true, Value.int 181 0, Value.ref 100, Value.none, Value.ref 101, Value.ref 102, Value.ref 103, Value.int 319 0, Value.int 66 0, Value.str (Str.ofString "/claim/cut.py") 320] } : Obj)) ::
  (nat_lit 105, ({ cls := Value.type "function", dict := none, data := Data.func (fnOf "is_begun" "Mould.is_begun" (L2.defArgs s_is_begun) (L2.defBody s_is_begun) (L2.defScope s_is_begun) Value.none (Value.none) (Value.none) (Value.str (Str.ofString "blademould.mould") 231) none (Value.ref 104) (Value.none)) } : Obj)) ::
  (nat_lit 111, ({ cls := Value.type "code", data := Data.fields #[Value.str (Str.ofString "has_station") 322, Value.str (Str.ofString "Mould.has_station") 323, Value.str (Str.ofString "/claim/cut.py") 324, Value.int 69 0, Value.int 2 0, Value.int 0 0, Value.int 0 0, Value.int 3 0, Value.ref 106, Value.bool true, Value.int 181 0, Value.ref 107, Value.none, Value.ref 108, Value.ref 109, Value.ref 110, Value.int 327 0, Value.int 69 0, Value.str (Str.ofString "/claim/cut.py") 328] } : Obj)) ::
  (nat_lit 112, ({ cls := Value.type "function", dict := none, data := Data.func (fnOf "has_station" "Mould.has_station" (L2.defArgs s_has_station) (L2.defBody s_has_station) (L2.defScope s_has_station) Value.none (Value.none) (Value.none) (Value.str (Str.ofString "blademould.mould") 231) none (Value.ref 111) (Value.none)) } : Obj)) ::
  (nat_lit 116, ({ cls := Value.type "code", data := Data.fields #[Value.str (Str.ofString "stack_at") 330, Value.str (Str.ofString "Mould.stack_at") 331, Value.str (Str.ofString "/claim/cut.py") 332, Value.int 72 0, Value.int 2 0, Value.int 0 0, Value.int 0 0, Value.int 3 0, Value.ref 113, Value.bool true, Value.int 181 0, Value.ref 114, Value.none, Value.none, Value.none, Value.ref 115, Value.int 333 0, Value.int 72 0, Value.str (Str.ofString "/claim/cut.py") 334] } : Obj)) ::
  (nat_lit 117, ({ cls := Value.type "function", dict := none, data := Data.func (fnOf "stack_at" "Mould.stack_at" (L2.defArgs s_stack_at) (L2.defBody s_stack_at) (L2.defScope s_stack_at) Value.none (Value.none) (Value.none) (Value.str (Str.ofString "blademould.mould") 231) none (Value.ref 116) (Value.none)) } : Obj)) ::
  (nat_lit 121, ({ cls := Value.type "code", data := Data.fields #[Value.str (Str.ofString "kinds_at") 336, Value.str (Str.ofString "Mould.kinds_at") 337, Value.str (Str.ofString "/claim/cut.py") 338, Value.int 76 0, Value.int 2 0, Value.int 0 0, Value.int 0 0, Value.int 3 0, Value.ref 118, Value.bool true, Value.int 181 0, Value.ref 119, Value.none, Value.none, Value.none, Value.ref 120, Value.int 339 0, Value.int 76 0, Value.str (Str.ofString "/claim/cut.py") 340] } : Obj)) ::
  (nat_lit 122, ({ cls := Value.type "function", dict := none, data := Data.func (fnOf "kinds_at" "Mould.kinds_at" (L2.defArgs s_kinds_at) (L2.defBody s_kinds_at) (L2.defScope s_kinds_at) Value.none (Value.none) (Value.none) (Value.str (Str.ofString "blademould.mould") 231) none (Value.ref 121) (Value.none)) } : Obj)) ::
  (nat_lit 128, ({ cls := Value.type "code", data := Data.fields #[Value.str (Str.ofString "alike_at") 342, Value.str (Str.ofString "Mould.alike_at") 343, Value.str (Str.ofString "/claim/cut.py") 344, Value.int 79 0, Value.int 2 0, Value.int 0 0, Value.int 0 0, Value.int 3 0, Value.ref 123, Value.bool true, Value.int 181 0, Value.ref 124, Value.none, Value.ref 125, Value.ref 126, Value.ref 127, Value.int 347 0, Value.int 79 0, Value.str (Str.ofString "/claim/cut.py") 348] } : Obj)) ::
  (nat_lit 129, ({ cls := Value.type "function", dict := none, data := Data.func (fnOf "alike_at" "Mould.alike_at" (L2.defArgs s_alike_at) (L2.defBody s_alike_at) (L2.defScope s_alike_at) Value.none (Value.none) (Value.none) (Value.str (Str.ofString "blademould.mould") 231) none (Value.ref 128) (Value.none)) } : Obj)) ::
  (nat_lit 135, ({ cls := Value.type "code", data := Data.fields #[Value.str (Str.ofString "layers_at") 350, Value.str (Str.ofString "Mould.layers_at") 351, Value.str (Str.ofString "/claim/cut.py") 352, Value.int 82 0, Value.int 2 0, Value.int 0 0, Value.int 0 0, Value.int 3 0, Value.ref 130, Value.bool true, Value.int 181 0, Value.ref 131, Value.none, Value.ref 132, Value.ref 133, Value.ref 134, Value.int 355 0, Value.int 82 0, Value.str (Str.ofString "/claim/cut.py") 356] } : Obj)) ::
  (nat_lit 136, ({ cls := Value.type "function", dict := none, data := Data.func (fnOf "layers_at" "Mould.layers_at" (L2.defArgs s_layers_at) (L2.defBody s_layers_at) (L2.defScope s_layers_at) Value.none (Value.none) (Value.none) (Value.str (Str.ofString "blademould.mould") 231) none (Value.ref 135) (Value.none)) } : Obj)) ::
  (nat_lit 142, ({ cls := Value.type "code", data := Data.fields #[Value.str (Str.ofString "missing_at") 358, Value.str (Str.ofString "Mould.missing_at") 359, Value.str (Str.ofString "/claim/cut.py") 360, Value.int 85 0, Value.int 2 0, Value.int 0 0, Value.int 0 0, Value.int 3 0, Value.ref 137, Value.bool true, Value.int 181 0, Value.ref 138, Value.none, Value.ref 139, Value.ref 140, Value.ref 141, Value.int 363 0, Value.int 85 0, Value.str (Str.ofString "/claim/cut.py") 364] } : Obj)) ::
  (nat_lit 143, ({ cls := Value.type "function", dict := none, data := Data.func (fnOf "missing_at" "Mould.missing_at" (L2.defArgs s_missing_at) (L2.defBody s_missing_at) (L2.defScope s_missing_at) Value.none (Value.none) (Value.none) (Value.str (Str.ofString "blademould.mould") 231) none (Value.ref 142) (Value.none)) } : Obj)) ::
  (nat_lit 147, ({ cls := Value.type "code", data := Data.fields #[Value.str (Str.ofString "lacking") 366, Value.str (Str.ofString "Mould.lacking") 367, Value.str (Str.ofString "/claim/cut.py") 368, Value.int 88 0, Value.int 1 0, Value.int 0 0, Value.int 0 0, Value.int 3 0, Value.ref 144, Value.bool true, Value.int 181 0, Value.ref 145, Value.none, Value.none, Value.none, Value.ref 146, Value.int 369 0, Value.int 88 0, Value.str (Str.ofString "/claim/cut.py") 370] } : Obj)) ::
  (nat_lit 148, ({ cls := Value.type "function", dict := none, data := Data.func (fnOf "lacking" "Mould.lacking" (L2.defArgs s_lacking) (L2.defBody s_lacking) (L2.defScope s_lacking) Value.none (Value.none) (Value.none) (Value.str (Str.ofString "blademould.mould") 231) none (Value.ref 147) (Value.none)) } : Obj)) ::
  (nat_lit 154, ({ cls := Value.type "code", data := Data.fields #[Value.str (Str.ofString "planned") 372, Value.str (Str.ofString "Mould.planned") 373, Value.str (Str.ofString "/claim/cut.py") 374, Value.int 91 0, Value.int 1 0, Value.int 0 0, Value.int 0 0, Value.int 3 0, Value.ref 149, Value.bool true, Value.int 181 0, Value.ref 150, Value.none, Value.ref 151, Value.ref 152, Value.ref 153, Value.int 376 0, Value.int 91 0, Value.str (Str.ofString "/claim/cut.py") 377] } : Obj)) ::
  (nat_lit 155, ({ cls := Value.type "function", dict := none, data := Data.func (fnOf "planned" "Mould.planned" (L2.defArgs s_planned) (L2.defBody s_planned) (L2.defScope s_planned) Value.none (Value.none) (Value.none) (Value.str (Str.ofString "blademould.mould") 231) none (Value.ref 154) (Value.none)) } : Obj)) ::
  (nat_lit 161, ({ cls := Value.type "code", data := Data.fields #[Value.str (Str.ofString "planned_fabric") 379, Value.str (Str.ofString "Mould.planned_fabric") 380, Value.str (Str.ofString "/claim/cut.py") 381, Value.int 94 0, Value.int 1 0, Value.int 0 0, Value.int 0 0, Value.int 3 0, Value.ref 156, Value.bool true, Value.int 181 0, Value.ref 157, Value.none, Value.ref 158, Value.ref 159, Value.ref 160, Value.int 383 0, Value.int 94 0, Value.str (Str.ofString "/claim/cut.py") 384] } : Obj)) ::
  (nat_lit 162, ({ cls := Value.type "function", dict := none, data := Data.func (fnOf "planned_fabric" "Mould.planned_fabric" (L2.defArgs s_planned_fabric) (L2.defBody s_planned_fabric) (L2.defScope s_planned_fabric) Value.none (Value.none) (Value.none) (Value.str (Str.ofString "blademould.mould") 231) none (Value.ref 161) (Value.none)) } : Obj)) ::
  (nat_lit 166, ({ cls := Value.type "code", data := Data.fields #[Value.str (Str.ofString "ends_with") 386, Value.str (Str.ofString "Mould.ends_with") 387, Value.str (Str.ofString "/claim/cut.py") 388, Value.int 97 0, Value.int 2 0, Value.int 0 0, Value.int 0 0, Value.int 3 0, Value.ref 163, Value.bool true, Value.int 181 0, Value.ref 164, Value.none, Value.none, Value.none, Value.ref 165, Value.int 389 0, Value.int 97 0, Value.str (Str.ofString "/claim/cut.py") 390] } : Obj)) ::
  (nat_lit 167, ({ cls := Value.type "function", dict := none, data := Data.func (fnOf "ends_with" "Mould.ends_with" (L2.defArgs s_ends_with) (L2.defBody s_ends_with) (L2.defScope s_ends_with) Value.none (Value.none) (Value.none) (Value.str (Str.ofString "blademould.mould") 231) none (Value.ref 166) (Value.none)) } : Obj)) ::
  (nat_lit 173, ({ cls := Value.type "code", data := Data.fields #[Value.str (Str.ofString "has_ends_for") 392, Value.str (Str.ofString "Mould.has_ends_for") 393, Value.str (Str.ofString "/claim/cut.py") 394, Value.int 101 0, Value.int 2 0, Value.int 0 0, Value.int 0 0, Value.int 3 0, Value.ref 168, Value.bool true, Value.int 181 0, Value.ref 169, Value.none, Value.ref 170, Value.ref 171, Value.ref 172, Value.int 397 0, Value.int 101 0, Value.str (Str.ofString "/claim/cut.py") 398] } : Obj)) ::
  (nat_lit 174, ({ cls := Value.type "function", dict := none, data := Data.func (fnOf "has_ends_for" "Mould.has_ends_for" (L2.defArgs s_has_ends_for) (L2.defBody s_has_ends_for) (L2.defScope s_has_ends_for) Value.none (Value.none) (Value.none) (Value.str (Str.ofString "blademould.mould") 231) none (Value.ref 173) (Value.none)) } : Obj)) ::
  (nat_lit 180, ({ cls := Value.type "code", data := Data.fields #[Value.str (Str.ofString "fabric_of") 400, Value.str (Str.ofString "Mould.fabric_of") 401, Value.str (Str.ofString "/claim/cut.py") 402, Value.int 104 0, Value.int 2 0, Value.int 0 0, Value.int 0 0, Value.int 3 0, Value.ref 175, Value.bool true, Value.int 181 0, Value.ref 176, Value.none, Value.ref 177, Value.ref 178, Value.ref 179, Value.int 405 0, Value.int 104 0, Value.str (Str.ofString "/claim/cut.py") 406] } : Obj)) ::
  (nat_lit 181, ({ cls := Value.type "function", dict := none, data := Data.func (fnOf "fabric_of" "Mould.fabric_of" (L2.defArgs s_fabric_of) (L2.defBody s_fabric_of) (L2.defScope s_fabric_of) Value.none (Value.none) (Value.none) (Value.str (Str.ofString "blademould.mould") 231) none (Value.ref 180) (Value.none)) } : Obj)) ::
  (nat_lit 185, ({ cls := Value.type "code", data := Data.fields #[Value.str (Str.ofString "fabric_in_plies") 408, Value.str (Str.ofString "Mould.fabric_in_plies") 409, Value.str (Str.ofString "/claim/cut.py") 410, Value.int 107 0, Value.int 1 0, Value.int 0 0, Value.int 0 0, Value.int 3 0, Value.ref 182, Value.bool true, Value.int 181 0, Value.ref 183, Value.none, Value.none, Value.none, Value.ref 184, Value.int 411 0, Value.int 107 0, Value.str (Str.ofString "/claim/cut.py") 412] } : Obj)) ::
  (nat_lit 186, ({ cls := Value.type "function", dict := none, data := Data.func (fnOf "fabric_in_plies" "Mould.fabric_in_plies" (L2.defArgs s_fabric_in_plies) (L2.defBody s_fabric_in_plies) (L2.defScope s_fabric_in_plies) Value.none (Value.none) (Value.none) (Value.str (Str.ofString "blademould.mould") 231) none (Value.ref 185) (Value.none)) } : Obj)) ::
  (nat_lit 192, ({ cls := Value.type "code", data := Data.fields #[Value.str (Str.ofString "least_free_number") 414, Value.str (Str.ofString "Mould.least_free_number") 415, Value.str (Str.ofString "/claim/cut.py") 416, Value.int 110 0, Value.int 1 0, Value.int 0 0, Value.int 0 0, Value.int 3 0, Value.ref 187, Value.bool true, Value.int 181 0, Value.ref 188, Value.none, Value.ref 189, Value.ref 190, Value.ref 191, Value.int 419 0, Value.int 110 0, Value.str (Str.ofString "/claim/cut.py") 420] } : Obj)) ::
  (nat_lit 193, ({ cls := Value.type "function", dict := none, data := Data.func (fnOf "least_free_number" "Mould.least_free_number" (L2.defArgs s_least_free_number) (L2.defBody s_least_free_number) (L2.defScope s_least_free_number) Value.none (Value.none) (Value.none) (Value.str (Str.ofString "blademould.mould") 231) none (Value.ref 192) (Value.none)) } : Obj)) ::
  (nat_lit 199, ({ cls := Value.type "code", data := Data.fields #[Value.str (Str.ofString "lay_ply") 422, Value.str (Str.ofString "Mould.lay_ply") 423, Value.str (Str.ofString "/claim/cut.py") 424, Value.int 116 0, Value.int 2 0, Value.int 0 0, Value.int 0 0, Value.int 3 0, Value.ref 194, Value.bool true, Value.int 181 0, Value.ref 195, Value.none, Value.ref 196, Value.ref 197, Value.ref 198, Value.int 428 0, Value.int 116 0, Value.str (Str.ofString "/claim/cut.py") 429] } : Obj)) ::
  (nat_lit 200, ({ cls := Value.type "function", dict := none, data := Data.func (fnOf "lay_ply" "Mould.lay_ply" (L2.defArgs s_lay_ply) (L2.defBody s_lay_ply) (L2.defScope s_lay_ply) Value.none (Value.none) (Value.none) (Value.str (Str.ofString "blademould.mould") 231) none (Value.ref 199) (Value.none)) } : Obj)) ::
  (nat_lit 206, ({ cls := Value.type "code", data := Data.fields #[Value.str (Str.ofString "lift_ply") 431, Value.str (Str.ofString "Mould.lift_ply") 432, Value.str (Str.ofString "/claim/cut.py") 433, Value.int 122 0, Value.int 2 0, Value.int 0 0, Value.int 0 0, Value.int 3 0, Value.ref 201, Value.bool true, Value.int 181 0, Value.ref 202, Value.none, Value.ref 203, Value.ref 204, Value.ref 205, Value.int 437 0, Value.int 122 0, Value.str (Str.ofString "/claim/cut.py") 438] } : Obj)) ::
  (nat_lit 207, ({ cls := Value.type "function", dict := none, data := Data.func (fnOf "lift_ply" "Mould.lift_ply" (L2.defArgs s_lift_ply) (L2.defBody s_lift_ply) (L2.defScope s_lift_ply) Value.none (Value.none) (Value.none) (Value.str (Str.ofString "blademould.mould") 231) none (Value.ref 206) (Value.none)) } : Obj)) ::
  (nat_lit 213, ({ cls := Value.type "code", data := Data.fields #[Value.str (Str.ofString "swap_plies") 440, Value.str (Str.ofString "Mould.swap_plies") 441, Value.str (Str.ofString "/claim/cut.py") 442, Value.int 127 0, Value.int 3 0, Value.int 0 0, Value.int 0 0, Value.int 3 0, Value.ref 208, Value.bool true, Value.int 181 0, Value.ref 209, Value.none, Value.ref 210, Value.ref 211, Value.ref 212, Value.int 447 0, Value.int 127 0, Value.str (Str.ofString "/claim/cut.py") 448] } : Obj)) ::
  (nat_lit 214, ({ cls := Value.type "function", dict := none, data := Data.func (fnOf "swap_plies" "Mould.swap_plies" (L2.defArgs s_swap_plies) (L2.defBody s_swap_plies) (L2.defScope s_swap_plies) Value.none (Value.none) (Value.none) (Value.str (Str.ofString "blademould.mould") 231) none (Value.ref 213) (Value.none)) } : Obj)) ::
  (nat_lit 216, ({ cls := Value.type "dict", data := Data.dict #[{ hash := PyData.keyHash P (Str.ofString "__module__"), key := Value.str (Str.ofString "__module__") 286, val := Value.str (Str.ofString "blademould.mould") 231 }, { hash := PyData.keyHash P (Str.ofString "__firstlineno__"), key := Value.str (Str.ofString "__firstlineno__") 290, val := Value.int 50 289 }, { hash := PyData.keyHash P (Str.ofString "__init__"), key := Value.str (Str.ofString "__init__") 297, val := Value.ref 84 }, { hash := PyData.keyHash P (Str.ofString "begin"), key := Value.str (Str.ofString "begin") 307, val := Value.ref 91 }, { hash := PyData.keyHash P (Str.ofString "station_count"), key := Value.str (Str.ofString "station_count") 314, val := Value.ref 98 }, { hash := PyData.keyHash P (Str.ofString "is_begun"), key := Value.str (Str.ofString "is_begun") 321, val := Value.ref 105 }, { hash := PyData.keyHash P (Str.ofString "has_station"), key := Value.str (Str.ofString "has_station") 329, val := Value.ref 112 }, { hash := PyData.keyHash P (Str.ofString "stack_at"), key := Value.str (Str.ofString "stack_at") 335, val := Value.ref 117 }, { hash := PyData.keyHash P (Str.ofString "kinds_at"), key := Value.str (Str.ofString "kinds_at") 341, val := Value.ref 122 }, { hash := PyData.keyHash P (Str.ofString "alike_at"), key := Value.str (Str.ofString "alike_at") 349, val := Value.ref 129 }, { hash := PyData.keyHash P (Str.ofString "layers_at"), key := Value.str (Str.ofString "layers_at") 357, val := Value.ref 136 }, { hash := PyData.keyHash P (Str.ofString "missing_at"), key := Value.str (Str.ofString "missing_at") 365, val := Value.ref 143 }, { hash := PyData.keyHash P (Str.ofString "lacking"), key := Value.str (Str.ofString "lacking") 371, val := Value.ref 148 }, { hash := PyData.keyHash P (Str.ofString "planned"), key := Value.str (Str.ofString "planned") 378, val := Value.ref 155 }, { hash := PyData.keyHash P (Str.ofString "planned_fabric"), key := Value.str (Str.ofString "planned_fabric") 385, val := Value.ref 162 }, { hash := PyData.keyHash P (Str.ofString "ends_with"), key := Value.str (Str.ofString "ends_with") 391, val := Value.ref 167 }, { hash := PyData.keyHash P (Str.ofString "has_ends_for"), key := Value.str (Str.ofString "has_ends_for") 399, val := Value.ref 174 }, { hash := PyData.keyHash P (Str.ofString "fabric_of"), key := Value.str (Str.ofString "fabric_of") 407, val := Value.ref 181 }, { hash := PyData.keyHash P (Str.ofString "fabric_in_plies"), key := Value.str (Str.ofString "fabric_in_plies") 413, val := Value.ref 186 }, { hash := PyData.keyHash P (Str.ofString "least_free_number"), key := Value.str (Str.ofString "least_free_number") 421, val := Value.ref 193 }, { hash := PyData.keyHash P (Str.ofString "lay_ply"), key := Value.str (Str.ofString "lay_ply") 430, val := Value.ref 200 }, { hash := PyData.keyHash P (Str.ofString "lift_ply"), key := Value.str (Str.ofString "lift_ply") 439, val := Value.ref 207 }, { hash := PyData.keyHash P (Str.ofString "swap_plies"), key := Value.str (Str.ofString "swap_plies") 449, val := Value.ref 214 }, { hash := PyData.keyHash P (Str.ofString "__static_attributes__"), key := Value.str (Str.ofString "__static_attributes__") 456, val := Value.ref 215 }, { hash := PyData.keyHash P (Str.ofString "__dict__"), key := Value.str (Str.ofString "__dict__") 458, val := Value.ref 218 }, { hash := PyData.keyHash P (Str.ofString "__weakref__"), key := Value.str (Str.ofString "__weakref__") 460, val := Value.ref 219 }, { hash := PyData.keyHash P (Str.ofString "__doc__"), key := Value.str (Str.ofString "__doc__") 461, val := Value.none }] 4 } : Obj)) ::
  (nat_lit 217, ({ cls := Value.type "type", data := Data.cls { name := Str.ofString "Mould", bases := [Value.type "object"], mro := [Value.ref 217, Value.type "object"], ns := 216, qualname := Str.ofString "Mould" }, slots := #[none, none, some (Value.str (Str.ofString "Mould") 279), some (Value.str (Str.ofString "Mould") 287), some (Value.builtin "object.__new__"), some (Value.bool true)] } : Obj)) ::
  (nat_lit 227, ({ cls := Value.type "code", data := Data.fields #[Value.str (Str.ofString "start") 504, Value.str (Str.ofString "start") 505, Value.str (Str.ofString "/claim/cut.py") 506, Value.int 147 0, Value.int 2 0, Value.int 0 0, Value.int 0 0, Value.int 3 0, Value.ref 222, Value.bool true, Value.int 181 0, Value.ref 223, Value.none, Value.ref 224, Value.ref 225, Value.ref 226, Value.int 512 0, Value.int 147 0, Value.str (Str.ofString "/claim/cut.py") 513] } : Obj)) ::
  (nat_lit 228, ({ cls := Value.type "function", dict := none, data := Data.func (fnOf "start" "start" (L2.defArgs s_start) (L2.defBody s_start) (L2.defScope s_start) Value.none (Value.none) (Value.none) (Value.str (Str.ofString "blademould.calls") 488) none (Value.ref 227) (Value.none)) } : Obj)) ::
  (nat_lit 234, ({ cls := Value.type "code", data := Data.fields #[Value.str (Str.ofString "set_need") 515, Value.str (Str.ofString "set_need") 516, Value.str (Str.ofString "/claim/cut.py") 517, Value.int 157 0, Value.int 2 0, Value.int 0 0, Value.int 0 0, Value.int 3 0, Value.ref 229, Value.bool true, Value.int 181 0, Value.ref 230, Value.none, Value.ref 231, Value.ref 232, Value.ref 233, Value.int 523 0, Value.int 157 0, Value.str (Str.ofString "/claim/cut.py") 524] } : Obj)) ::
  (nat_lit 235, ({ cls := Value.type "function", dict := none, data := Data.func (fnOf "set_need" "set_need" (L2.defArgs s_set_need) (L2.defBody s_set_need) (L2.defScope s_set_need) Value.none (Value.none) (Value.none) (Value.str (Str.ofString "blademould.calls") 488) none (Value.ref 234) (Value.none)) } : Obj)) ::
  (nat_lit 241, ({ cls := Value.type "code", data := Data.fields #[Value.str (Str.ofString "roll") 526, Value.str (Str.ofString "roll") 527, Value.str (Str.ofString "/claim/cut.py") 528, Value.int 167 0, Value.int 2 0, Value.int 0 0, Value.int 0 0, Value.int 3 0, Value.ref 236, Value.bool true, Value.int 181 0, Value.ref 237, Value.none, Value.ref 238, Value.ref 239, Value.ref 240, Value.int 533 0, Value.int 167 0, Value.str (Str.ofString "/claim/cut.py") 534] } : Obj)) ::
  (nat_lit 242, ({ cls := Value.type "function", dict := none, data := Data.func (fnOf "roll" "roll" (L2.defArgs s_roll) (L2.defBody s_roll) (L2.defScope s_roll) Value.none (Value.none) (Value.none) (Value.str (Str.ofString "blademould.calls") 488) none (Value.ref 241) (Value.none)) } : Obj)) ::
  (nat_lit 248, ({ cls := Value.type "code", data := Data.fields #[Value.str (Str.ofString "lay") 536, Value.str (Str.ofString "lay") 537, Value.str (Str.ofString "/claim/cut.py") 538, Value.int 174 0, Value.int 2 0, Value.int 0 0, Value.int 0 0, Value.int 3 0, Value.ref 243, Value.bool true, Value.int 181 0, Value.ref 244, Value.none, Value.ref 245, Value.ref 246, Value.ref 247, Value.int 542 0, Value.int 174 0, Value.str (Str.ofString "/claim/cut.py") 543] } : Obj)) ::
  (nat_lit 249, ({ cls := Value.type "function", dict := none, data := Data.func (fnOf "lay" "lay" (L2.defArgs s_lay) (L2.defBody s_lay) (L2.defScope s_lay) Value.none (Value.none) (Value.none) (Value.str (Str.ofString "blademould.calls") 488) none (Value.ref 248) (Value.none)) } : Obj)) ::
  (nat_lit 255, ({ cls := Value.type "code", data := Data.fields #[Value.str (Str.ofString "lift") 545, Value.str (Str.ofString "lift") 546, Value.str (Str.ofString "/claim/cut.py") 547, Value.int 187 0, Value.int 2 0, Value.int 0 0, Value.int 0 0, Value.int 3 0, Value.ref 250, Value.bool true, Value.int 181 0, Value.ref 251, Value.none, Value.ref 252, Value.ref 253, Value.ref 254, Value.int 551 0, Value.int 187 0, Value.str (Str.ofString "/claim/cut.py") 552] } : Obj)) ::
  (nat_lit 256, ({ cls := Value.type "function", dict := none, data := Data.func (fnOf "lift" "lift" (L2.defArgs s_lift) (L2.defBody s_lift) (L2.defScope s_lift) Value.none (Value.none) (Value.none) (Value.str (Str.ofString "blademould.calls") 488) none (Value.ref 255) (Value.none)) } : Obj)) ::
  (nat_lit 262, ({ cls := Value.type "code", data := Data.fields #[Value.str (Str.ofString "missing") 554, Value.str (Str.ofString "missing") 555, Value.str (Str.ofString "/claim/cut.py") 556, Value.int 192 0, Value.int 2 0, Value.int 0 0, Value.int 0 0, Value.int 3 0, Value.ref 257, Value.bool true, Value.int 181 0, Value.ref 258, Value.none, Value.ref 259, Value.ref 260, Value.ref 261, Value.int 560 0, Value.int 192 0, Value.str (Str.ofString "/claim/cut.py") 561] } : Obj)) ::
  (nat_lit 263, ({ cls := Value.type "function", dict := none, data := Data.func (fnOf "missing" "missing" (L2.defArgs s_missing) (L2.defBody s_missing) (L2.defScope s_missing) Value.none (Value.none) (Value.none) (Value.str (Str.ofString "blademould.calls") 488) none (Value.ref 262) (Value.none)) } : Obj)) ::
  (nat_lit 269, ({ cls := Value.type "code", data := Data.fields #[Value.str (Str.ofString "lacks") 563, Value.str (Str.ofString "lacks") 564, Value.str (Str.ofString "/claim/cut.py") 565, Value.int 197 0, Value.int 2 0, Value.int 0 0, Value.int 0 0, Value.int 3 0, Value.ref 264, Value.bool true, Value.int 181 0, Value.ref 265, Value.none, Value.ref 266, Value.ref 267, Value.ref 268, Value.int 568 0, Value.int 197 0, Value.str (Str.ofString "/claim/cut.py") 569] } : Obj)) ::
  (nat_lit 270, ({ cls := Value.type "function", dict := none, data := Data.func (fnOf "lacks" "lacks" (L2.defArgs s_lacks) (L2.defBody s_lacks) (L2.defScope s_lacks) Value.none (Value.none) (Value.none) (Value.str (Str.ofString "blademould.calls") 488) none (Value.ref 269) (Value.none)) } : Obj)) ::
  (nat_lit 276, ({ cls := Value.type "code", data := Data.fields #[Value.str (Str.ofString "fewest") 571, Value.str (Str.ofString "fewest") 572, Value.str (Str.ofString "/claim/cut.py") 573, Value.int 199 0, Value.int 2 0, Value.int 0 0, Value.int 0 0, Value.int 3 0, Value.ref 271, Value.bool true, Value.int 181 0, Value.ref 272, Value.none, Value.ref 273, Value.ref 274, Value.ref 275, Value.int 576 0, Value.int 199 0, Value.str (Str.ofString "/claim/cut.py") 577] } : Obj)) ::
  (nat_lit 277, ({ cls := Value.type "function", dict := none, data := Data.func (fnOf "fewest" "fewest" (L2.defArgs s_fewest) (L2.defBody s_fewest) (L2.defScope s_fewest) Value.none (Value.none) (Value.none) (Value.str (Str.ofString "blademould.calls") 488) none (Value.ref 276) (Value.none)) } : Obj)) ::
  (nat_lit 283, ({ cls := Value.type "code", data := Data.fields #[Value.str (Str.ofString "plan") 579, Value.str (Str.ofString "plan") 580, Value.str (Str.ofString "/claim/cut.py") 581, Value.int 201 0, Value.int 2 0, Value.int 0 0, Value.int 0 0, Value.int 3 0, Value.ref 278, Value.bool true, Value.int 181 0, Value.ref 279, Value.none, Value.ref 280, Value.ref 281, Value.ref 282, Value.int 588 0, Value.int 201 0, Value.str (Str.ofString "/claim/cut.py") 589] } : Obj)) ::
  (nat_lit 284, ({ cls := Value.type "function", dict := none, data := Data.func (fnOf "plan" "plan" (L2.defArgs s_plan) (L2.defBody s_plan) (L2.defScope s_plan) Value.none (Value.none) (Value.none) (Value.str (Str.ofString "blademould.calls") 488) none (Value.ref 283) (Value.none)) } : Obj)) ::
  (nat_lit 290, ({ cls := Value.type "code", data := Data.fields #[Value.str (Str.ofString "goes") 591, Value.str (Str.ofString "goes") 592, Value.str (Str.ofString "/claim/cut.py") 593, Value.int 208 0, Value.int 2 0, Value.int 0 0, Value.int 0 0, Value.int 3 0, Value.ref 285, Value.bool true, Value.int 181 0, Value.ref 286, Value.none, Value.ref 287, Value.ref 288, Value.ref 289, Value.int 596 0, Value.int 208 0, Value.str (Str.ofString "/claim/cut.py") 597] } : Obj)) ::
  (nat_lit 291, ({ cls := Value.type "function", dict := none, data := Data.func (fnOf "goes" "goes" (L2.defArgs s_goes) (L2.defBody s_goes) (L2.defScope s_goes) Value.none (Value.none) (Value.none) (Value.str (Str.ofString "blademould.calls") 488) none (Value.ref 290) (Value.none)) } : Obj)) ::
  (nat_lit 297, ({ cls := Value.type "code", data := Data.fields #[Value.str (Str.ofString "fabric") 599, Value.str (Str.ofString "fabric") 600, Value.str (Str.ofString "/claim/cut.py") 601, Value.int 210 0, Value.int 2 0, Value.int 0 0, Value.int 0 0, Value.int 3 0, Value.ref 292, Value.bool true, Value.int 181 0, Value.ref 293, Value.none, Value.ref 294, Value.ref 295, Value.ref 296, Value.int 604 0, Value.int 210 0, Value.str (Str.ofString "/claim/cut.py") 605] } : Obj)) ::
  (nat_lit 298, ({ cls := Value.type "function", dict := none, data := Data.func (fnOf "fabric" "fabric" (L2.defArgs s_fabric) (L2.defBody s_fabric) (L2.defScope s_fabric) Value.none (Value.none) (Value.none) (Value.str (Str.ofString "blademould.calls") 488) none (Value.ref 297) (Value.none)) } : Obj)) ::
  (nat_lit 304, ({ cls := Value.type "code", data := Data.fields #[Value.str (Str.ofString "follow") 607, Value.str (Str.ofString "follow") 608, Value.str (Str.ofString "/claim/cut.py") 609, Value.int 212 0, Value.int 2 0, Value.int 0 0, Value.int 0 0, Value.int 3 0, Value.ref 299, Value.bool true, Value.int 181 0, Value.ref 300, Value.none, Value.ref 301, Value.ref 302, Value.ref 303, Value.int 616 0, Value.int 212 0, Value.str (Str.ofString "/claim/cut.py") 617] } : Obj)) ::
  (nat_lit 305, ({ cls := Value.type "function", dict := none, data := Data.func (fnOf "follow" "follow" (L2.defArgs s_follow) (L2.defBody s_follow) (L2.defScope s_follow) Value.none (Value.none) (Value.none) (Value.str (Str.ofString "blademould.calls") 488) none (Value.ref 304) (Value.none)) } : Obj)) ::
  (nat_lit 311, ({ cls := Value.type "code", data := Data.fields #[Value.str (Str.ofString "ends") 619, Value.str (Str.ofString "ends") 620, Value.str (Str.ofString "/claim/cut.py") 621, Value.int 226 0, Value.int 2 0, Value.int 0 0, Value.int 0 0, Value.int 3 0, Value.ref 306, Value.bool true, Value.int 181 0, Value.ref 307, Value.none, Value.ref 308, Value.ref 309, Value.ref 310, Value.int 625 0, Value.int 226 0, Value.str (Str.ofString "/claim/cut.py") 626] } : Obj)) ::
  (nat_lit 312, ({ cls := Value.type "function", dict := none, data := Data.func (fnOf "ends" "ends" (L2.defArgs s_ends) (L2.defBody s_ends) (L2.defScope s_ends) Value.none (Value.none) (Value.none) (Value.str (Str.ofString "blademould.calls") 488) none (Value.ref 311) (Value.none)) } : Obj)) ::
  (nat_lit 318, ({ cls := Value.type "code", data := Data.fields #[Value.str (Str.ofString "worst") 628, Value.str (Str.ofString "worst") 629, Value.str (Str.ofString "/claim/cut.py") 630, Value.int 231 0, Value.int 2 0, Value.int 0 0, Value.int 0 0, Value.int 3 0, Value.ref 313, Value.bool true, Value.int 181 0, Value.ref 314, Value.none, Value.ref 315, Value.ref 316, Value.ref 317, Value.int 635 0, Value.int 231 0, Value.str (Str.ofString "/claim/cut.py") 636] } : Obj)) ::
  (nat_lit 319, ({ cls := Value.type "function", dict := none, data := Data.func (fnOf "worst" "worst" (L2.defArgs s_worst) (L2.defBody s_worst) (L2.defScope s_worst) Value.none (Value.none) (Value.none) (Value.str (Str.ofString "blademould.calls") 488) none (Value.ref 318) (Value.none)) } : Obj)) ::
  (nat_lit 325, ({ cls := Value.type "code", data := Data.fields #[Value.str (Str.ofString "stack") 638, Value.str (Str.ofString "stack") 639, Value.str (Str.ofString "/claim/cut.py") 640, Value.int 235 0, Value.int 2 0, Value.int 0 0, Value.int 0 0, Value.int 3 0, Value.ref 320, Value.bool true, Value.int 181 0, Value.ref 321, Value.none, Value.ref 322, Value.ref 323, Value.ref 324, Value.int 645 0, Value.int 235 0, Value.str (Str.ofString "/claim/cut.py") 646] } : Obj)) ::
  (nat_lit 326, ({ cls := Value.type "function", dict := none, data := Data.func (fnOf "stack" "stack" (L2.defArgs s_stack) (L2.defBody s_stack) (L2.defScope s_stack) Value.none (Value.none) (Value.none) (Value.str (Str.ofString "blademould.calls") 488) none (Value.ref 325) (Value.none)) } : Obj)) ::
  (nat_lit 330, ({ cls := Value.type "code", data := Data.fields #[Value.str (Str.ofString "kinds") 648, Value.str (Str.ofString "kinds") 649, Value.str (Str.ofString "/claim/cut.py") 650, Value.int 241 0, Value.int 2 0, Value.int 0 0, Value.int 0 0, Value.int 3 0, Value.ref 327, Value.bool true, Value.int 181 0, Value.ref 328, Value.none, Value.none, Value.none, Value.ref 329, Value.int 651 0, Value.int 241 0, Value.str (Str.ofString "/claim/cut.py") 652] } : Obj)) ::
  (nat_lit 331, ({ cls := Value.type "function", dict := none, data := Data.func (fnOf "kinds" "kinds" (L2.defArgs s_kinds) (L2.defBody s_kinds) (L2.defScope s_kinds) Value.none (Value.none) (Value.none) (Value.str (Str.ofString "blademould.calls") 488) none (Value.ref 330) (Value.none)) } : Obj)) ::
  (nat_lit 337, ({ cls := Value.type "code", data := Data.fields #[Value.str (Str.ofString "alike") 654, Value.str (Str.ofString "alike") 655, Value.str (Str.ofString "/claim/cut.py") 656, Value.int 247 0, Value.int 2 0, Value.int 0 0, Value.int 0 0, Value.int 3 0, Value.ref 332, Value.bool true, Value.int 181 0, Value.ref 333, Value.none, Value.ref 334, Value.ref 335, Value.ref 336, Value.int 660 0, Value.int 247 0, Value.str (Str.ofString "/claim/cut.py") 661] } : Obj)) ::
  (nat_lit 338, ({ cls := Value.type "function", dict := none, data := Data.func (fnOf "alike" "alike" (L2.defArgs s_alike) (L2.defBody s_alike) (L2.defScope s_alike) Value.none (Value.none) (Value.none) (Value.str (Str.ofString "blademould.calls") 488) none (Value.ref 337) (Value.none)) } : Obj)) ::
  (nat_lit 344, ({ cls := Value.type "code", data := Data.fields #[Value.str (Str.ofString "swap") 663, Value.str (Str.ofString "swap") 664, Value.str (Str.ofString "/claim/cut.py") 665, Value.int 252 0, Value.int 2 0, Value.int 0 0, Value.int 0 0, Value.int 3 0, Value.ref 339, Value.bool true, Value.int 181 0, Value.ref 340, Value.none, Value.ref 341, Value.ref 342, Value.ref 343, Value.int 670 0, Value.int 252 0, Value.str (Str.ofString "/claim/cut.py") 671] } : Obj)) ::
  (nat_lit 345, ({ cls := Value.type "function", dict := none, data := Data.func (fnOf "swap" "swap" (L2.defArgs s_swap) (L2.defBody s_swap) (L2.defScope s_swap) Value.none (Value.none) (Value.none) (Value.str (Str.ofString "blademould.calls") 488) none (Value.ref 344) (Value.none)) } : Obj)) ::
  (nat_lit 351, ({ cls := Value.type "code", data := Data.fields #[Value.str (Str.ofString "stock") 673, Value.str (Str.ofString "stock") 674, Value.str (Str.ofString "/claim/cut.py") 675, Value.int 261 0, Value.int 2 0, Value.int 0 0, Value.int 0 0, Value.int 3 0, Value.ref 346, Value.bool true, Value.int 181 0, Value.ref 347, Value.none, Value.ref 348, Value.ref 349, Value.ref 350, Value.int 679 0, Value.int 261 0, Value.str (Str.ofString "/claim/cut.py") 680] } : Obj)) ::
  (nat_lit 352, ({ cls := Value.type "function", dict := none, data := Data.func (fnOf "stock" "stock" (L2.defArgs s_stock) (L2.defBody s_stock) (L2.defScope s_stock) Value.none (Value.none) (Value.none) (Value.str (Str.ofString "blademould.calls") 488) none (Value.ref 351) (Value.none)) } : Obj)) ::
  (nat_lit 358, ({ cls := Value.type "code", data := Data.fields #[Value.str (Str.ofString "metres") 682, Value.str (Str.ofString "metres") 683, Value.str (Str.ofString "/claim/cut.py") 684, Value.int 266 0, Value.int 2 0, Value.int 0 0, Value.int 0 0, Value.int 3 0, Value.ref 353, Value.bool true, Value.int 181 0, Value.ref 354, Value.none, Value.ref 355, Value.ref 356, Value.ref 357, Value.int 687 0, Value.int 266 0, Value.str (Str.ofString "/claim/cut.py") 688] } : Obj)) ::
  (nat_lit 359, ({ cls := Value.type "function", dict := none, data := Data.func (fnOf "metres" "metres" (L2.defArgs s_metres) (L2.defBody s_metres) (L2.defScope s_metres) Value.none (Value.none) (Value.none) (Value.str (Str.ofString "blademould.calls") 488) none (Value.ref 358) (Value.none)) } : Obj)) ::
  (nat_lit 365, ({ cls := Value.type "code", data := Data.fields #[Value.str (Str.ofString "state") 690, Value.str (Str.ofString "state") 691, Value.str (Str.ofString "/claim/cut.py") 692, Value.int 268 0, Value.int 2 0, Value.int 0 0, Value.int 0 0, Value.int 3 0, Value.ref 360, Value.bool true, Value.int 181 0, Value.ref 361, Value.none, Value.ref 362, Value.ref 363, Value.ref 364, Value.int 695 0, Value.int 268 0, Value.str (Str.ofString "/claim/cut.py") 696] } : Obj)) ::
  (nat_lit 366, ({ cls := Value.type "function", dict := none, data := Data.func (fnOf "state" "state" (L2.defArgs s_state) (L2.defBody s_state) (L2.defScope s_state) Value.none (Value.none) (Value.none) (Value.str (Str.ofString "blademould.calls") 488) none (Value.ref 365) (Value.none)) } : Obj)) ::
  (nat_lit 367, ({ cls := Value.type "dict", data := Data.dict #[{ hash := 0, key := Value.int 0 698, val := Value.ref 228 }, { hash := 1, key := Value.int 1 700, val := Value.ref 235 }, { hash := 2, key := Value.int 2 702, val := Value.ref 242 }, { hash := 3, key := Value.int 3 704, val := Value.ref 249 }, { hash := 4, key := Value.int 4 706, val := Value.ref 256 }, { hash := 5, key := Value.int 5 708, val := Value.ref 263 }, { hash := 6, key := Value.int 6 710, val := Value.ref 270 }, { hash := 7, key := Value.int 7 712, val := Value.ref 277 }, { hash := 8, key := Value.int 8 714, val := Value.ref 284 }, { hash := 9, key := Value.int 9 716, val := Value.ref 291 }, { hash := 10, key := Value.int 10 718, val := Value.ref 298 }, { hash := 11, key := Value.int 11 720, val := Value.ref 305 }, { hash := 12, key := Value.int 12 722, val := Value.ref 312 }, { hash := 13, key := Value.int 13 724, val := Value.ref 319 }, { hash := 14, key := Value.int 14 726, val := Value.ref 326 }, { hash := 15, key := Value.int 15 728, val := Value.ref 331 }, { hash := 16, key := Value.int 16 730, val := Value.ref 338 }, { hash := 17, key := Value.int 17 732, val := Value.ref 345 }, { hash := 18, key := Value.int 18 733, val := Value.ref 352 }, { hash := 19, key := Value.int 19 734, val := Value.ref 359 }, { hash := 20, key := Value.int 20 735, val := Value.ref 366 }] 21 } : Obj)) ::
  (nat_lit 374, ({ cls := Value.type "code", data := Data.fields #[Value.str (Str.ofString "answer_call") 741, Value.str (Str.ofString "answer_call") 742, Value.str (Str.ofString "/claim/cut.py") 743, Value.int 271 0, Value.int 3 0, Value.int 0 0, Value.int 0 0, Value.int 3 0, Value.ref 369, Value.bool true, Value.int 181 0, Value.ref 370, Value.none, Value.ref 371, Value.ref 372, Value.ref 373, Value.int 748 0, Value.int 271 0, Value.str (Str.ofString "/claim/cut.py") 749] } : Obj)) ::
  (nat_lit 375, ({ cls := Value.type "function", dict := none, data := Data.func (fnOf "answer_call" "answer_call" (L2.defArgs s_answer_call) (L2.defBody s_answer_call) (L2.defScope s_answer_call) Value.none (Value.none) (Value.none) (Value.str (Str.ofString "blademould.calls") 488) none (Value.ref 374) (Value.none)) } : Obj)) ::
  (nat_lit 376, ({ cls := Value.type "tuple", data := Data.seq #[Value.int 2 753, Value.int 2 754, Value.int 2 755, Value.int 3 756, Value.int 1 757, Value.int 1 758, Value.int 0 759, Value.int 0 760, Value.int 0 761, Value.int 0 762, Value.int 0 763, Value.int 1 764, Value.int 1 765, Value.int 0 766, Value.int 1 767, Value.int 1 768, Value.int 1 769, Value.int 2 770, Value.int 1 771, Value.int 0 772, Value.int 0 773] } : Obj)) ::
  (nat_lit 382, ({ cls := Value.type "code", data := Data.fields #[Value.str (Str.ofString "end_of_call") 775, Value.str (Str.ofString "end_of_call") 776, Value.str (Str.ofString "/claim/cut.py") 777, Value.int 278 0, Value.int 2 0, Value.int 0 0, Value.int 0 0, Value.int 3 0, Value.ref 377, Value.bool true, Value.int 181 0, Value.ref 378, Value.none, Value.ref 379, Value.ref 380, Value.ref 381, Value.int 781 0, Value.int 278 0, Value.str (Str.ofString "/claim/cut.py") 782] } : Obj)) ::
  (nat_lit 383, ({ cls := Value.type "function", dict := none, data := Data.func (fnOf "end_of_call" "end_of_call" (L2.defArgs s_end_of_call) (L2.defBody s_end_of_call) (L2.defScope s_end_of_call) Value.none (Value.none) (Value.none) (Value.str (Str.ofString "blademould.layup") 751) none (Value.ref 382) (Value.none)) } : Obj)) ::
  (nat_lit 389, ({ cls := Value.type "code", data := Data.fields #[Value.str (Str.ofString "answers") 784, Value.str (Str.ofString "answers") 785, Value.str (Str.ofString "/claim/cut.py") 786, Value.int 283 0, Value.int 1 0, Value.int 0 0, Value.int 0 0, Value.int 3 0, Value.ref 384, Value.bool true, Value.int 181 0, Value.ref 385, Value.none, Value.ref 386, Value.ref 387, Value.ref 388, Value.int 793 0, Value.int 283 0, Value.str (Str.ofString "/claim/cut.py") 794] } : Obj)) ::
  (nat_lit 390, ({ cls := Value.type "function", dict := none, data := Data.func (fnOf "answers" "answers" (L2.defArgs s_answers) (L2.defBody s_answers) (L2.defScope s_answers) Value.none (Value.none) (Value.none) (Value.str (Str.ofString "blademould.layup") 751) none (Value.ref 389) (Value.none)) } : Obj)) :: []
def asK : List Addr := [nat_lit 3, nat_lit 20, nat_lit 21, nat_lit 27, nat_lit 28, nat_lit 34, nat_lit 35, nat_lit 41, nat_lit 42, nat_lit 48, nat_lit 49, nat_lit 62, nat_lit 63, nat_lit 65, nat_lit 66, nat_lit 83, nat_lit 84, nat_lit 90, nat_lit 91, nat_lit 97, nat_lit 98, nat_lit 104, nat_lit 105, nat_lit 111, nat_lit 112, nat_lit 116, nat_lit 117, nat_lit 121, nat_lit 122, nat_lit 128, nat_lit 129, nat_lit 135, nat_lit 136, nat_lit 142, nat_lit 143, nat_lit 147, nat_lit 148, nat_lit 154, nat_lit 155, nat_lit 161, nat_lit 162, nat_lit 166, nat_lit 167, nat_lit 173, nat_lit 174, nat_lit 180, nat_lit 181, nat_lit 185, nat_lit 186, nat_lit 192, nat_lit 193, nat_lit 199, nat_lit 200, nat_lit 206, nat_lit 207, nat_lit 213, nat_lit 214, nat_lit 216, nat_lit 217, nat_lit 227, nat_lit 228, nat_lit 234, nat_lit 235, nat_lit 241, nat_lit 242, nat_lit 248, nat_lit 249, nat_lit 255, nat_lit 256, nat_lit 262, nat_lit 263, nat_lit 269, nat_lit 270, nat_lit 276, nat_lit 277, nat_lit 283, nat_lit 284, nat_lit 290, nat_lit 291, nat_lit 297, nat_lit 298, nat_lit 304, nat_lit 305, nat_lit 311, nat_lit 312, nat_lit 318, nat_lit 319, nat_lit 325, nat_lit 326, nat_lit 330, nat_lit 331, nat_lit 337, nat_lit 338, nat_lit 344, nat_lit 345, nat_lit 351, nat_lit 352, nat_lit 358, nat_lit 359, nat_lit 365, nat_lit 366, nat_lit 367, nat_lit 374, nat_lit 375, nat_lit 376, nat_lit 382, nat_lit 383, nat_lit 389, nat_lit 390]
def hkK : Hook := kHook Kf asK (fun _ => rfl)
abbrev lsK : List Str := [Str.ofString "CALLS"]
abbrev xtK : Shared → Bool := fun s => xlAt vw [] s && recOk [] s
abbrev mdK : List Str := importedModules pw.main.body
abbrev opK (w : World) : Option Shared := fencedOpening treeTable pw w 5274
abbrev toK (w : World) (b : Bool) (s : Shared) : Option Shared := topFrom treeTable pw (w.withFollow "special-get-raises" b) 5274 s
theorem combK {A B C D : Type} {x : Option A} {f : A → Option B} {g : B → C} {h : B → D} {a : C} {b : D} (h1 : x.map (fun s => (f s).map g) = some (some a)) (h2 : x.map (fun s => (f s).map h) = some (some b)) :
    x.map (fun s => (f s).map fun s => (g s, h s)) = some (some (a, b)) := by
  cases x with
  | none => cases h1
  | some s =>
    rw [Option.map_some] at h1 h2 ⊢
    have h1 := Option.some.inj h1
    have h2 := Option.some.inj h2
    cases e : f s with
    | none => rw [e] at h1; cases h1
    | some r =>
      rw [e, Option.map_some] at h1 h2
      rw [Option.map_some, Option.some.inj h1, Option.some.inj h2]
theorem fstK {A B C D : Type} {x : Option A} {f : A → Option B} {g : B → C} {h : B → D} {a : C} {b : D} (h1 : x.map (fun s => (f s).map fun s => (g s, h s)) = some (some (a, b))) : x.map (fun s => (f s).map g) = some (some a) := by
  cases x with
  | none => cases h1
  | some s =>
    rw [Option.map_some] at h1 ⊢
    have h1 := Option.some.inj h1
    cases e : f s with
    | none => rw [e] at h1; cases h1
    | some r =>
      rw [e, Option.map_some] at h1
      rw [Option.map_some, (Prod.mk.inj (Option.some.inj h1)).1]
theorem sndK {A B C D : Type} {x : Option A} {f : A → Option B} {g : B → C} {h : B → D} {a : C} {b : D} (h1 : x.map (fun s => (f s).map fun s => (g s, h s)) = some (some (a, b))) : x.map (fun s => (f s).map h) = some (some b) := by
  cases x with
  | none => cases h1
  | some s =>
    rw [Option.map_some] at h1 ⊢
    have h1 := Option.some.inj h1
    cases e : f s with
    | none => rw [e] at h1; cases h1
    | some r =>
      rw [e, Option.map_some] at h1
      rw [Option.map_some, (Prod.mk.inj (Option.some.inj h1)).2]
theorem run_f0 (w : World) : (opK w).map (fun s => (toK w false s).map (fun s => (hkK.obs s))) = some (some (hkK.val (w.withFollow "special-get-raises" false))) := by kernel_rfl
theorem run_f1 (w : World) : (opK w).map (fun s => (toK w false s).map (fun s => (seen ((recsOf vw).map (·.name)) (ownsOf vw) [] { s with gens := #[] }))) = some (some (expectedOf vw)) := by kernel_rfl
theorem run_f2 (w : World) : (opK w).map (fun s => (toK w false s).map (fun s => (s.heap.bltView, tabsOk vw s, pinSeenD vw (drecsOf vw) s, clsSeenW vw lsK s))) = some (some (bltViewBooted, true, pinGoodD (drecsOf vw), clsGoodW vw lsK)) := by kernel_rfl
theorem run_f3 (w : World) : (opK w).map (fun s => (toK w false s).map (fun s => (plainSeenE vw (looseW vw lsK) s))) = some (some (plainGoodE vw (looseW vw lsK))) := by kernel_rfl
theorem run_f4 (w : World) : (opK w).map (fun s => (toK w false s).map (fun s => (plainSeenD vw lsK s))) = some (some (plainGoodD vw lsK)) := by kernel_rfl
theorem run_f5 (w : World) : (opK w).map (fun s => (toK w false s).map (fun s => ((s.heap.keysOk (looseW vw lsK) ((recsOf vw).map (·.name)) ((litsOf vw).map (·.1)) ((clssOf vw (looseW vw lsK)).map (·.name)) && s.heap.accountedOkI mdK && s.heap.isNs mainGlobals && s.heap.isNs builtinsNs && tablesOk vw s.heap && xtK s && (if true then s.gens.size == 0 else !leftWithCleanup s.gens))))) = some (some (true)) := by kernel_rfl
theorem run_f6 (w : World) : (opK w).map (fun s => (toK w false s).map (fun s => (wideSeen vw s))) = some (some (wideGood vw)) := by kernel_rfl
theorem left_f (w : World) : (opK w).map (fun s => (toK w false s).map (fun s => (openSeen vw lsK mdK xtK true s, hkK.obs s))) = some (some (openGood vw lsK, hkK.val (w.withFollow "special-get-raises" false))) :=
  combK (combK (run_f1 w) (combK (fstK (run_f2 w)) (combK (run_f5 w) (combK (fstK (sndK (run_f2 w))) (combK (fstK (sndK (sndK (run_f2 w)))) (combK (run_f3 w) (combK (run_f4 w) (combK (run_f6 w) (sndK (sndK (sndK (run_f2 w)))))))))))) (run_f0 w)
theorem run_t0 (w : World) : (opK w).map (fun s => (toK w true s).map (fun s => (hkK.obs s))) = some (some (hkK.val (w.withFollow "special-get-raises" true))) := by kernel_rfl
theorem run_t1 (w : World) : (opK w).map (fun s => (toK w true s).map (fun s => (seen ((recsOf vw).map (·.name)) (ownsOf vw) [] { s with gens := #[] }))) = some (some (expectedOf vw)) := by kernel_rfl
theorem run_t2 (w : World) : (opK w).map (fun s => (toK w true s).map (fun s => (s.heap.bltView, tabsOk vw s, pinSeenD vw (drecsOf vw) s, clsSeenW vw lsK s))) = some (some (bltViewBooted, true, pinGoodD (drecsOf vw), clsGoodW vw lsK)) := by kernel_rfl
theorem run_t3 (w : World) : (opK w).map (fun s => (toK w true s).map (fun s => (plainSeenE vw (looseW vw lsK) s))) = some (some (plainGoodE vw (looseW vw lsK))) := by kernel_rfl
theorem run_t4 (w : World) : (opK w).map (fun s => (toK w true s).map (fun s => (plainSeenD vw lsK s))) = some (some (plainGoodD vw lsK)) := by kernel_rfl
theorem run_t5 (w : World) : (opK w).map (fun s => (toK w true s).map (fun s => ((s.heap.keysOk (looseW vw lsK) ((recsOf vw).map (·.name)) ((litsOf vw).map (·.1)) ((clssOf vw (looseW vw lsK)).map (·.name)) && s.heap.accountedOkI mdK && s.heap.isNs mainGlobals && s.heap.isNs builtinsNs && tablesOk vw s.heap && xtK s && (if true then s.gens.size == 0 else !leftWithCleanup s.gens))))) = some (some (true)) := by kernel_rfl
theorem run_t6 (w : World) : (opK w).map (fun s => (toK w true s).map (fun s => (wideSeen vw s))) = some (some (wideGood vw)) := by kernel_rfl
theorem left_t (w : World) : (opK w).map (fun s => (toK w true s).map (fun s => (openSeen vw lsK mdK xtK true s, hkK.obs s))) = some (some (openGood vw lsK, hkK.val (w.withFollow "special-get-raises" true))) :=
  combK (combK (run_t1 w) (combK (fstK (run_t2 w)) (combK (run_t5 w) (combK (fstK (sndK (run_t2 w))) (combK (fstK (sndK (sndK (run_t2 w)))) (combK (run_t3 w) (combK (run_t4 w) (combK (run_t6 w) (sndK (sndK (sndK (run_t2 w)))))))))))) (run_t0 w)
theorem leftK : LeftO pw vw lsK xtK hkK.obs hkK.val 5274 true := LeftO.of_split "special-get-raises" fun w => by
  have h1 := left_f w
  have h2 := left_t w
  show (opK w).map (fun s => ((toK w false s).map (fun s => (openSeen vw lsK mdK xtK true s, hkK.obs s)), (toK w true s).map (fun s => (openSeen vw lsK mdK xtK true s, hkK.obs s)))) = _
  cases e : opK w with
  | none => rw [e] at h1; cases h1
  | some s =>
    rw [e, Option.map_some] at h1 h2
    rw [Option.map_some, Option.some.inj h1, Option.some.inj h2]
end Bm
end
section
set_option Elab.async false
set_option linter.all false
set_option maxRecDepth 100000
namespace L2
open PySem PySem.Spec PyProof.Rows
abbrev Key := Sum Int Str
def keyIs : Key → Value → Bool
  | .inl k, v => Value.isInt k v
  | .inr x, v => Value.isStrOf x v
def keyH (w : World) : Key → Int
  | .inl k => hashInt k
  | .inr x => hashStr w x
theorem keyIs_shape : ∀ {k : Key} {v : Value}, keyIs k v = true → (∃ i t, k = Sum.inl i ∧ v = Value.int i t) ∨ (∃ x t, k = Sum.inr x ∧ v = Value.str x t)
  | .inl i, v, h => by
    obtain ⟨t, e⟩ := Value.isInt_shape (k := i) (v := v) h
    exact .inl ⟨i, t, rfl, e⟩
  | .inr x, v, h => by
    obtain ⟨t, e⟩ := Value.isStrOf_shape (x := x) (v := v) h
    exact .inr ⟨x, t, rfl, e⟩
theorem keyIs_int (i : Int) (t : Tok) : keyIs (.inl i) (.int i t) = true := by simp [keyIs, Value.isInt]
theorem keyIs_str (x : Str) (t : Tok) : keyIs (.inr x) (.str x t) = true := by simp [keyIs, Value.isStrOf]
theorem key_ll (a b : Int) : decide ((Sum.inl a : Key) = Sum.inl b) = (a == b) := by
  by_cases e : a = b
  · subst e; simp
  · have h : ¬ (Sum.inl a : Key) = Sum.inl b := fun q => e (Sum.inl.inj q)
    rw [decide_eq_false h]
    exact (beq_eq_false_iff_ne.mpr e).symm
theorem key_rr (a b : Str) : decide ((Sum.inr a : Key) = Sum.inr b) = decide (a = b) := by
  by_cases e : a = b
  · subst e; simp
  · have h : ¬ (Sum.inr a : Key) = Sum.inr b := fun q => e (Sum.inr.inj q)
    rw [decide_eq_false h, decide_eq_false e]
theorem key_lr (a : Int) (b : Str) : decide ((Sum.inl a : Key) = Sum.inr b) = false := decide_eq_false (fun q => nomatch q)
theorem key_rl (a : Str) (b : Int) : decide ((Sum.inr a : Key) = Sum.inl b) = false := decide_eq_false (fun q => nomatch q)
def mixKind (prog : Program) (w : World) : PySem.KeyKind prog w Key where
  is := keyIs
  hash := keyH w
  inj := fun v a b ha hb => by
    rcases keyIs_shape ha with ⟨i, t, rfl, rfl⟩ | ⟨x, t, rfl, rfl⟩
    · rcases keyIs_shape hb with ⟨j, u, rfl, e⟩ | ⟨y, u, rfl, e⟩
      · injection e with e1 _; rw [e1]
      · exact nomatch e
    · rcases keyIs_shape hb with ⟨j, u, rfl, e⟩ | ⟨y, u, rfl, e⟩
      · exact nomatch e
      · injection e with e1 _; rw [e1]
  byValue := fun k v h => by
    rcases keyIs_shape h with ⟨i, t, rfl, rfl⟩ | ⟨x, t, rfl, rfl⟩ <;> rfl
  pyHash := fun hv h => by
    rcases keyIs_shape hv with ⟨i, t, rfl, rfl⟩ | ⟨x, t, rfl, rfl⟩
    · exact wpAny_pyHash_int h
    · exact wpAny_pyHash_str h
  eqBool := fun hu hv h => by
    rcases keyIs_shape hu with ⟨i, t, rfl, rfl⟩ | ⟨x, t, rfl, rfl⟩
    · rcases keyIs_shape hv with ⟨j, u, rfl, rfl⟩ | ⟨y, u, rfl, rfl⟩
      · rw [key_ll] at h; exact wpAny_eqBool_int h
      · rw [key_lr] at h; exact SeqAt.EqAt.int_str i t y u _ _ _ _ h
    · rcases keyIs_shape hv with ⟨j, u, rfl, rfl⟩ | ⟨y, u, rfl, rfl⟩
      · rw [key_rl] at h; exact SeqAt.EqAt.str_int x t j u _ _ _ _ h
      · rw [key_rr] at h; exact wpAny_eqBool_str h
  «strs» := fun k x t v h => by
    rcases keyIs_shape h with ⟨i, u, rfl, e⟩ | ⟨y, u, rfl, e⟩
    · exact nomatch e
    · injection e with e1 _
      subst e1
      cases v <;> rfl
theorem mixKind_int (prog : Program) (w : World) (i : Int) (t : Tok) : (mixKind prog w).is (.inl i) (.int i t) = true := keyIs_int i t
theorem mixKind_str (prog : Program) (w : World) (x : Str) (t : Tok) : (mixKind prog w).is (.inr x) (.str x t) = true := keyIs_str x t
end L2
namespace L2
open PySem PySem.Spec PyProof.Rows
inductive V where
  | non | bl (b : Bool) | int (i : Int) | str (x : Str) | byt (b : Array UInt8) | flt (b : UInt64) | ref (a : Addr) | ty (n : String)
  deriving DecidableEq
def RelV : V → Value → Prop
  | .non, u => u = Value.none
  | .bl b, u => u = Value.bool b
  | .int i, u => ∃ t, u = Value.int i t
  | .str x, u => ∃ t, u = Value.str x t
  | .byt b, u => ∃ t, u = Value.bytes b t
  | .flt b, u => ∃ t, u = Value.float b t
  | .ref a, u => u = Value.ref a
  | .ty n, u => u = Value.type n
abbrev Vals : List V → List Value → Prop := Paired RelV
theorem Vals.length {xs : List V} {us : List Value} (r : Vals xs us) : xs.length = us.length := Paired.length r
theorem Vals.get : ∀ {xs : List V} {us : List Value} {i : Nat} {x : V}, Vals xs us → xs[i]? = some x → ∃ u, us[i]? = some u ∧ RelV x u
  | _, _, _, _, .nil, e => by simp at e
  | _, _, 0, _, .cons r _, e => by simp at e; subst e; exact ⟨_, rfl, r⟩
  | _, _, i + 1, x, .cons _ t, e => by
    obtain ⟨u, h1, h2⟩ := Vals.get (i := i) (x := x) t (by simpa using e)
    exact ⟨u, by simpa using h1, h2⟩
theorem Vals.set {x : V} {u : Value} (r : RelV x u) : ∀ {xs : List V} {us : List Value} (i : Nat), Vals xs us → Vals (xs.set i x) (us.set i u)
  | _, _, _, .nil => .nil
  | _, _, 0, .cons _ t => .cons r t
  | _, _, i + 1, .cons q t => .cons q (Vals.set r i t)
theorem Vals.append : ∀ {xs ys : List V} {us ws : List Value}, Vals xs us → Vals ys ws → Vals (xs ++ ys) (us ++ ws)
  | _, _, _, _, .nil, s => s
  | _, _, _, _, .cons r t, s => .cons r (Vals.append t s)
theorem Vals.take : ∀ {xs : List V} {us : List Value} (n : Nat), Vals xs us → Vals (xs.take n) (us.take n)
  | _, _, 0, _ => .nil
  | _, _, _ + 1, .nil => .nil
  | _, _, n + 1, .cons r t => .cons r (Vals.take n t)
theorem Vals.drop : ∀ {xs : List V} {us : List Value} (n : Nat), Vals xs us → Vals (xs.drop n) (us.drop n)
  | _, _, 0, r => r
  | _, _, _ + 1, .nil => .nil
  | _, _, n + 1, .cons _ t => Vals.drop n t
def RelO : Option V → Option Value → Prop
  | some v, some u => RelV v u
  | none, none => True
  | _, _ => False
def KV {κ : Type} : List (κ × V) → List (κ × Value) → Prop := Paired fun (p : κ × V) (q : κ × Value) => p.1 = q.1 ∧ RelV p.2 q.2
def kV : Key → V
  | .inl i => .int i
  | .inr x => .str x
inductive HO where
  /-- a list -/
  | lst (xs : List V)
  /-- a tuple (never changes) -/
  | tup (xs : List V)
  /-- a dict whose keys are ints and texts; one whose keys are tuples of ints and texts (the empty one is both) -/
  | dK (kvs : List (Key × V)) | dT (kvs : List (List Key × V))
  /-- a set of ints: its members, its size -/
  | set (S : Int → Bool) (n : Nat)
  /-- an instance of the class at C, its dict at dx, its attributes -/
  | ins (C dx : Addr) (fs : List (Str × V))
  /-- the dict of the instance at x -/
  | own (x : Addr)
  /-- the dict of an exception -/
  | xd (fs : List (Str × V))
  /-- a bound method, f of x -/
  | met (f x : Addr)
  /-- a range object lo, lo + 1, .. below hi -/
  | rng (lo hi : Int)
  /-- a thing that is known to the object (the script; a dict while a loop walks it): read, never written while it is so -/
  | frz (o : Obj) (u : HO)
  /-- a code object's table -/
  | tbl (ps : Array Value)
  /-- any other thing, by what is true of its one object (a def of one's own: SetO a S n := HO.ext fun h => ..) -/
  | ext (φ : Heap → Prop)
abbrev Hp := Addr → Option HO
def upd (H : Hp) (a : Addr) (o : HO) : Hp := fun b => if b = a then some o else H b
theorem upd_same {H : Hp} {a : Addr} {o : HO} : upd H a o a = some o := by unfold upd; rw [if_pos rfl]
theorem upd_ne {H : Hp} {a b : Addr} {o : HO} (h : b ≠ a) : upd H a o b = H b := by unfold upd; rw [if_neg h]
theorem upd_upd {H : Hp} {a : Addr} {o u : HO} : upd (upd H a o) a u = upd H a u := by
  funext b; unfold upd; split <;> rfl
theorem ne_of {H : Hp} {a b : Addr} {o u : HO} (h : H a = some o) (h' : H b = some u) (d : o ≠ u) : a ≠ b := by
  intro e; subst e; rw [h] at h'; exact d (Option.some.inj h')
theorem ne_of_none {H : Hp} {a b : Addr} {o : HO} (h : H a = some o) (h' : H b = none) : a ≠ b := by
  intro e; subst e; rw [h] at h'; cases h'
section
variable (P : Program) (w : World)
def ObjOk (H : Hp) (h : Heap) (a : Addr) : HO → Prop
  | .lst xs => xs.length ≤ sizeLine ∧ ∃ (its : List Value) (n : Nat), Vals xs its ∧ h.get? a = some { cls := .type "list", data := .seq its.toArray n }
  | .tup xs => xs.length ≤ sizeLine ∧ ∃ its : List Value, Vals xs its ∧ IsTup h a its.toArray
  | .dK kvs => kvs.length ≤ sizeLine ∧ (a == sysModules) = false ∧ ∃ vs, KV kvs vs ∧ h.DictOf (mixKind P w) a vs
  | .dT kvs => kvs.length ≤ sizeLine ∧ (a == sysModules) = false ∧ ∃ xs : List (List Key × Addr × Value),
      Paired (fun (p : List Key × V) (q : List Key × Addr × Value) => p.1 = q.1 ∧ H q.2.1 = some (.tup (p.1.map kV)) ∧ RelV p.2 q.2.2) kvs xs ∧
      ∃ o es ep, h.get? a = some o ∧ o.ExactDict ∧ o.data = .dict es ep ∧ es.toList = xs.map (entryOfKey (tupleKind (mixKind P w))) ∧ (xs.map (·.1)).Nodup
  | .set S n => h.SetOf (intKind P w) a S n
  | .ins C dx fs => H dx = some (.own a) ∧ fs.length ≤ 1000 ∧ dx ≠ a ∧ h.get? a = some (PySem.W.instObj C dx) ∧
      ∃ mA, h.Ns1 dx mA ∧ (∀ f, RelO (fs.lookup f) (mA f)) ∧ PySem.Within mA (fs.map (·.1))
  | .own _ => ∃ o, h.get? a = some o
  | .xd fs => ∃ mA, h.Ns1 a mA ∧ ∀ f, RelO (fs.lookup f) (mA f)
  | .rng lo hi => ∃ t u v, h.get? a = some { cls := .type "range", data := .fields #[.int lo t, .int hi u, .int 1 v] }
  | .frz o u => h.get? a = some o ∧ ObjOk H h a u
  | .tbl ps => h.get? a = some { cls := .none, data := .fields ps }
  | .met f x => h.get? a = some (PySem.W.methodObj (.ref f) (.ref x))
  | .ext φ => φ h ∧ (∃ o, h.get? a = some o) ∧ ∀ h1 h2 : Heap, φ h1 → (∀ o, h1.get? a = some o → h2.get? a = some o) → φ h2
def HOk (H : Hp) (h : Heap) : Prop := ∀ a o, H a = some o → ObjOk P w H h a o
end
section
variable {P : Program} {w : World} {H H' : Hp} {h h' : Heap} {a : Addr} {o : HO}
theorem ObjOk.lt (x : ObjOk P w H h a o) : a < h.objs.size := by
  cases o with
  | lst xs => obtain ⟨_, _, _, _, e⟩ := x; exact Heap.lt_size e
  | tup xs => obtain ⟨_, _, _, p⟩ := x; exact p.lt
  | dK kvs => obtain ⟨_, _, _, _, o, _, _, e, _⟩ := x; exact Heap.lt_size e
  | dT kvs => obtain ⟨_, _, _, _, o, _, _, e, _⟩ := x; exact Heap.lt_size e
  | set S n => obtain ⟨o, _, _, _, e, _⟩ := x; exact Heap.lt_size e
  | ins C dx fs => obtain ⟨_, _, _, e, _⟩ := x; exact Heap.lt_size e
  | own y => obtain ⟨_, e⟩ := x; exact Heap.lt_size e
  | xd fs => obtain ⟨_, ⟨_, _, _, e, _⟩, _⟩ := x; exact Heap.lt_size e
  | rng lo hi => obtain ⟨_, _, _, e⟩ := x; exact Heap.lt_size e
  | frz ob u => obtain ⟨e, _⟩ := x; exact Heap.lt_size e
  | tbl ps => exact Heap.lt_size (show h.get? a = some _ from x)
  | met f y => exact Heap.lt_size (show h.get? a = some _ from x)
  | ext φ => obtain ⟨_, ⟨_, e⟩, _⟩ := x; exact Heap.lt_size e
theorem Paired.mapP {α β : Type} {F G : α → β → Prop} : ∀ {l₁ : List α} {l₂ : List β}, Paired F l₁ l₂ → (∀ a b, F a b → G a b) → Paired G l₁ l₂
  | _, _, .nil, _ => .nil
  | _, _, .cons r t, f => .cons (f _ _ r) (Paired.mapP t f)
theorem ObjOk.stay (x : ObjOk P w H h a o) (k : ∀ b u, (b = a ∨ H b = some (.own a)) → h.get? b = some u → h'.get? b = some u)
    (ho : ∀ b, H b = some (.own a) → H' b = some (.own a)) (ht : ∀ b xs, H b = some (.tup xs) → H' b = some (.tup xs)) : ObjOk P w H' h' a o := by
  induction o with
  | lst xs => obtain ⟨z, its, n, r, e⟩ := x; exact ⟨z, its, n, r, k _ _ (.inl rfl) e⟩
  | tup xs => obtain ⟨z, its, r, ob, e, c⟩ := x; exact ⟨z, its, r, ob, k _ _ (.inl rfl) e, c⟩
  | dK kvs => obtain ⟨z, y, vs, r, ob, es, ep, e, c⟩ := x; exact ⟨z, y, vs, r, ob, es, ep, k _ _ (.inl rfl) e, c⟩
  | dT kvs =>
    obtain ⟨z, y, xs, r, ob, es, ep, e, c⟩ := x
    exact ⟨z, y, xs, Paired.mapP r fun p q z => ⟨z.1, ht _ _ z.2.1, z.2.2⟩, ob, es, ep, k _ _ (.inl rfl) e, c⟩
  | set S n => obtain ⟨ob, es, ep, t, e, c⟩ := x; exact ⟨ob, es, ep, t, k _ _ (.inl rfl) e, c⟩
  | ins C dx fs =>
    obtain ⟨d, z, ne, e, mA, ⟨od, es, ep, e2, c⟩, r⟩ := x
    exact ⟨ho _ d, z, ne, k _ _ (.inl rfl) e, mA, ⟨od, es, ep, k _ _ (.inr d) e2, c⟩, r⟩
  | own y => obtain ⟨ob, e⟩ := x; exact ⟨ob, k _ _ (.inl rfl) e⟩
  | xd fs => obtain ⟨mA, ⟨od, es, ep, e, c⟩, r⟩ := x; exact ⟨mA, ⟨od, es, ep, k _ _ (.inl rfl) e, c⟩, r⟩
  | rng lo hi => obtain ⟨t, u, v, e⟩ := x; exact ⟨t, u, v, k _ _ (.inl rfl) e⟩
  | frz ob u ih => obtain ⟨e, q⟩ := x; exact ⟨k _ _ (.inl rfl) e, ih q⟩
  | tbl ps =>
    have e : h.get? a = some { cls := .none, data := .fields ps } := x
    show h'.get? a = some { cls := .none, data := .fields ps }
    exact k a _ (.inl rfl) e
  | met f y =>
    have e : h.get? a = some (PySem.W.methodObj (.ref f) (.ref y)) := x
    show h'.get? a = some (PySem.W.methodObj (.ref f) (.ref y))
    exact k a _ (.inl rfl) e
  | ext φ => obtain ⟨p, ⟨o, e⟩, st⟩ := x; exact ⟨st _ _ p fun o q => k _ _ (.inl rfl) q, ⟨o, k _ _ (.inl rfl) e⟩, st⟩
theorem HOk.lt (x : HOk P w H h) (e : H a = some o) : a < h.objs.size := (x a o e).lt
theorem HOk.fresh (x : HOk P w H h) (e : h.objs.size ≤ a) : H a = none := by
  cases q : H a with
  | none => rfl
  | some u => exact absurd (Nat.lt_of_lt_of_le (x.lt q) e) (Nat.lt_irrefl _)
theorem HOk.kept (x : HOk P w H h) (k : ∀ b u, h.get? b = some u → h'.get? b = some u) : HOk P w H h' := fun a o e =>
  (x a o e).stay (fun b u _ q => k b u q) (fun _ q => q) fun _ _ q => q
theorem HOk.laid (x : HOk P w H h) (k : ∀ b u, h.get? b = some u → h'.get? b = some u) (hp : h.objs.size ≤ a) (new : ObjOk P w (upd H a o) h' a o) : HOk P w (upd H a o) h' := fun b u e => by
  have hn := x.fresh hp
  by_cases hb : b = a
  · subst hb; rw [upd_same] at e; cases e; exact new
  · rw [upd_ne hb] at e
    exact (x b u e).stay (fun c v _ q => k c v q) (fun c q => by rw [upd_ne (ne_of_none q hn)]; exact q) fun c xs q => by rw [upd_ne (ne_of_none q hn)]; exact q
end
def Rd (H : Hp) (a : Addr) (u : HO) : Prop := H a = some u ∨ ∃ o, H a = some (.frz o u)
theorem Rd.ok {P : Program} {w : World} {H : Hp} {h : Heap} {a : Addr} {u : HO} (r : Rd H a u) (x : HOk P w H h) : ObjOk P w H h a u := by
  rcases r with r | ⟨o, r⟩
  · exact x a u r
  · obtain ⟨_, q⟩ := x a _ r
    exact q
def Mut : Option HO → Prop
  | some (.lst _) => True
  | some (.dK _) => True
  | some (.dT _) => True
  | some (.set _ _) => True
  | some (.ins _ _ _) => True
  | some (.ext _) => True
  | _ => False
section
variable {P : Program} {w : World} {H : Hp} {h h' : Heap} {x e : Addr} {o' : HO}
theorem HOk.write (ok : HOk P w H h) (mu : Mut (H x)) (he : e = x ∨ H e = some (.own x)) (k : ∀ b u, b ≠ e → h.get? b = some u → h'.get? b = some u) (heo : ∃ u, h'.get? e = some u)
    (new : ObjOk P w (upd H x o') h' x o') : HOk P w (upd H x o') h' := fun b u q => by
  have nown : ∀ c y, H c = some (.own y) → c ≠ x := fun c y r z => by subst z; rw [r] at mu; exact mu
  have ntup : ∀ c xs, H c = some (.tup xs) → c ≠ x := fun c xs r z => by subst z; rw [r] at mu; exact mu
  by_cases hb : b = x
  · subst hb; rw [upd_same] at q; cases q; exact new
  · rw [upd_ne hb] at q
    by_cases hbe : b = e
    · have q' : H b = some (.own x) := by
        rcases he with z | z
        · exact absurd (hbe.trans z) hb
        · rw [hbe]; exact z
      rw [q] at q'; cases q'
      obtain ⟨v, hv⟩ := heo
      exact ⟨v, by rw [hbe]; exact hv⟩
    · refine (ok b u q).stay (fun c v hc r => k c v ?_ r) (fun c r => by rw [upd_ne (nown c b r)]; exact r) fun c xs r => by rw [upd_ne (ntup c xs r)]; exact r
      rcases hc with rfl | hc
      · exact hbe
      · rintro rfl
        rcases he with z | z
        · exact nown c b hc z
        · rw [hc] at z; cases z; exact hb rfl
end
structure Un (fs ex : List Addr) (H H' : Hp) (h h' : Heap) : Prop where
  keep : ∀ b o, h.get? b = some o → H b = none → b ∉ fs → b ∉ ex → h'.get? b = some o
  slot : ∀ b o, h.get? b = some o → H b = none → b ∈ fs → b ∉ ex → ∃ sl, h'.get? b = some { o with slots := sl }
  free : ∀ b o, h.get? b = some o → H b = none → b ∉ ex → H' b = none
  there : ∀ b o, h.get? b = some o → b ∉ ex → ∃ o', h'.get? b = some o'
  tups : ∀ b xs, H b = some (.tup xs) → H' b = some (.tup xs)
  frzs : ∀ b o u, H b = some (.frz o u) → H' b = some (.frz o u)
  tbls : ∀ b ps, H b = some (.tbl ps) → ∃ more, H' b = some (.tbl (ps ++ more))
section
variable {fs fs' ex ex' : List Addr} {H H1 H2 : Hp} {h h1 h2 h' : Heap} {a x e : Addr} {o : HO}
theorem Un.any (u : Un fs ex H H1 h h1) {b : Addr} {ob : Obj} (q : h.get? b = some ob) (n : H b = none) (hx : b ∉ ex) : ∃ sl, h1.get? b = some { ob with slots := sl } := by
  by_cases hb : b ∈ fs
  · exact u.slot b ob q n hb hx
  · exact ⟨ob.slots, u.keep b ob q n hb hx⟩
theorem Un.kept (k : ∀ b u, h.get? b = some u → h'.get? b = some u) : Un fs ex H H h h' :=
  ⟨fun b ob q _ _ _ => k b ob q, fun b ob q _ _ _ => ⟨ob.slots, k b ob q⟩, fun _ _ _ n _ => n, fun b ob q _ => ⟨ob, k b ob q⟩, fun _ _ q => q, fun _ _ _ q => q, fun _ ps q => ⟨#[], by rw [q]; simp⟩⟩
theorem Un.refl : Un fs ex H H h h := Un.kept fun _ _ q => q
theorem Un.laid (k : ∀ b u, h.get? b = some u → h'.get? b = some u) (hp : h.objs.size ≤ a) (hn : H a = none) : Un fs ex H (upd H a o) h h' where
  keep := fun b u q _ _ _ => k b u q
  slot := fun b u q _ _ _ => ⟨u.slots, k b u q⟩
  free := fun b u q n _ => by rw [upd_ne (Nat.ne_of_lt (Nat.lt_of_lt_of_le (Heap.lt_size q) hp))]; exact n
  there := fun b u q _ => ⟨u, k b u q⟩
  tups := fun b xs q => by rw [upd_ne (ne_of_none q hn)]; exact q
  frzs := fun b u xs q => by rw [upd_ne (ne_of_none q hn)]; exact q
  tbls := fun b ps q => ⟨#[], by rw [upd_ne (ne_of_none q hn), q]; simp⟩
theorem Un.write (mu : Mut (H x)) (he : e = x ∨ H e = some (.own x)) (k : ∀ b u, b ≠ e → h.get? b = some u → h'.get? b = some u) (heo : ∃ u, h'.get? e = some u) : Un fs ex H (upd H x o) h h' := by
  have hx : ∀ b, H b = none → b ≠ x := fun b n z => by subst z; rw [n] at mu; exact mu
  have hb : ∀ b, H b = none → b ≠ e := fun b n z => by
    subst z
    rcases he with r | r
    · exact hx b n r
    · rw [n] at r; cases r
  have hm : ∀ b u, H b = some u → ¬ Mut (some u) → b ≠ x := fun b u q nm z => by subst z; rw [q] at mu; exact nm mu
  refine ⟨fun b u q n _ _ => k b u (hb b n) q, fun b u q n _ _ => ⟨u.slots, k b u (hb b n) q⟩, fun b u q n _ => by rw [upd_ne (hx b n)]; exact n, fun b u q _ => ?_,
    fun b xs q => by rw [upd_ne (hm b _ q fun z => z)]; exact q, fun b u xs q => by rw [upd_ne (hm b _ q fun z => z)]; exact q, fun b ps q => ⟨#[], by rw [upd_ne (hm b _ q fun z => z), q]; simp⟩⟩
  by_cases hbe : b = e
  · subst hbe; exact heo
  · exact ⟨u, k b u hbe q⟩
end
def trk (h : Heap) (H : Hp) : List Addr := (List.range h.objs.size).filter fun a => (H a).isSome
def hidT (h : Heap) (H : Hp) : Heap := PySem.W.hideAll h (trk h H)
theorem hidT_size (h : Heap) (H : Hp) : (hidT h H).objs.size = h.objs.size := PySem.W.hideAll_size _ _
theorem hidT_get {h : Heap} {H : Hp} {b : Addr} {o : Obj} (e : h.get? b = some o) (n : H b = none) : (hidT h H).get? b = some o :=
  PySem.W.hideAll_get _ e fun hm => by
    have q : (H b).isSome = true := (List.mem_filter.mp hm).2
    rw [n] at q; simp at q
theorem of_hidT {h : Heap} {H : Hp} {b : Addr} {o : Obj} (e : (hidT h H).get? b = some o) : h.get? b = some o ∧ H b = none := by
  have e' : h.get? b = some o := PySem.W.of_hideAll (trk h H) e
  refine ⟨e', ?_⟩
  cases q : H b with
  | none => rfl
  | some x =>
    have hm : b ∈ trk h H := List.mem_filter.mpr ⟨List.mem_range.mpr (Heap.lt_size e'), by simp [q]⟩
    have z : (hidT h H).get? b = none := PySem.W.hideAll_none (trk h H) hm
    rw [z] at e; cases e
end L2
namespace L2
open PySem PySem.Spec PyProof.Rows
structure Mod (K : PySem.W.Frag) (mg : Str → Option Value) (base : Heap) : Prop where
  kin : K.In base
  glob : base.Ns mainGlobals mg
  blt : ∃ mb, base.Ns builtinsNs mb ∧ ∀ x : Str, x ≠ "__name__" → mb x = bootBuiltins x
  nolimit : base.NoLimit
structure Cx where
  prog : Program
  w : World
  K : PySem.W.Frag
  mg : Str → Option Value
  base : Heap
  A : Around
  N : List Str
  s_0 : Shared
  H_0 : Hp
  env : Env
  outer : List Env
  stack : List Env
  ex : List Addr
  fn : Str → Bool
  calm : Bool
  pn : List (Addr × Obj)
  xe : Value → Shared → Prop
def frs (l : List Env) : List Addr := l.filterMap (·.frame)
abbrev Cx.fs (X : Cx) : List Addr := frs X.outer
def Vis (sc : Scope) (x : Str) : Prop := sc.names.lookup x = some .local ∨ sc.names.lookup x = some .cell ∨ sc.names.lookup x = some .free
def Loc (sc : Scope) (x : Str) : Prop := sc.names.lookup x = some .local ∨ sc.names.lookup x = some .cell
def Look (env : Env) (h : Heap) (m : Str → Option Value) (x : Str) (u : Value) : Prop :=
  (env.kindOf x = some .local ∧ m x = some u) ∨ ((env.kindOf x = some .cell ∨ env.kindOf x = some .free) ∧ ∃ c, env.cells.lookup x = some c ∧ h.IsCell c (some u))
structure Cx.Ok (X : Cx) : Prop where
  mod : Mod X.K X.mg X.base
  kind : X.env.scope.kind = .function
  glob : X.env.globals = mainGlobals
  blt : X.env.builtins = builtinsNs
  above : X.s_0.heap.objs.size ≤ X.env.locals
  inj : ∀ x y c, X.env.cells.lookup x = some c → X.env.cells.lookup y = some c → x = y
  has : ∀ x, (X.env.kindOf x = some .cell ∨ X.env.kindOf x = some .free) → ∃ c, X.env.cells.lookup x = some c
  cab : ∀ x c, X.fn x = true → X.env.cells.lookup x = some c → X.s_0.heap.objs.size ≤ c
  hd : X.calm = true → X.A.handled = none
  frames : X.A.frames = some X.stack
  stk : X.stack = X.outer ∨ (X.stack = X.env :: X.outer ∧ X.env.frame = some X.env.locals)
  exf : ∀ b ∈ X.ex, b ≠ X.env.locals ∧ ∀ x c, X.env.cells.lookup x = some c → c ≠ b
  bs : ∀ b o, X.base.get? b = some o → X.s_0.heap.get? b = some o ∧ X.H_0 b = none
  bsz : X.base.objs.size ≤ X.s_0.heap.objs.size
  noex : ∀ b o, X.base.get? b = some o → b ∉ X.ex
  exfs : ∀ b ∈ X.ex, b ∉ X.fs
  funs : X.s_0.heap.FunFrames X.base X.outer
  frf : ∀ b ∈ X.fs, X.H_0 b = none
structure Inv (X : Cx) (pins : List (Addr × Obj)) (σ : List (Option V)) (H : Hp) (s : Shared) : Prop where
  ok : X.Ok
  os : s.os = X.s_0.os
  bare : AllBare s.gens
  base : Un X.fs X.ex X.H_0 H X.s_0.heap s.heap
  loc : ∃ m, s.heap.Ns X.env.locals m ∧ ∀ (i : Nat) (x : Str) (v : V), X.N[i]? = some x → σ[i]? = some (some v) → Vis X.env.scope x → ∃ u, RelV v u ∧ Look X.env s.heap m x u
  cell : ∀ x c, X.env.cells.lookup x = some c → ∃ v, s.heap.IsCell c v
  free : H X.env.locals = none
  freeC : ∀ x c, X.env.cells.lookup x = some c → H c = none
  pin : ∀ p ∈ X.pn ++ pins, s.heap.get? p.1 = some p.2 ∧ H p.1 = none ∧ p.1 ≠ X.env.locals ∧ p.1 ∉ X.fs ∧ ∀ v, p.2.data ≠ .cell v
  hok : HOk X.prog X.w H s.heap
  len : σ.length = X.N.length
section
variable {X : Cx} {pins : List (Addr × Obj)} {σ : List (Option V)} {H H' : Hp} {s : Shared} {h' : Heap}
theorem Cx.Ok.nofr (ok : X.Ok) {b : Addr} {o : Obj} (e : X.base.get? b = some o) : b ∉ X.fs := fun hb => by
  have := (ok.funs.mem hb).1
  rw [e] at this; cases this
theorem Inv.bs (I : Inv X pins σ H s) : ∀ b o, X.base.get? b = some o → s.heap.get? b = some o ∧ H b = none := fun b o e =>
  ⟨I.base.keep b o (I.ok.bs b o e).1 (I.ok.bs b o e).2 (I.ok.nofr e) (I.ok.noex b o e), I.base.free b o (I.ok.bs b o e).1 (I.ok.bs b o e).2 (I.ok.noex b o e)⟩
theorem Inv.bk (I : Inv X pins σ H s) : ∀ b o, X.base.get? b = some o → s.heap.get? b = some o := fun b o e => (I.bs b o e).1
theorem Inv.mod (I : Inv X pins σ H s) : Mod X.K X.mg X.base := I.ok.mod
theorem Inv.kIn (I : Inv X pins σ H s) : X.K.In s.heap := I.ok.mod.kin.keeps I.bk
theorem Inv.fr (I : Inv X pins σ H s) : ∃ m, Fr X.base X.env.locals s.heap m :=
  let ⟨m, hn, _⟩ := I.loc
  ⟨m, hn, I.bk, Nat.le_trans I.ok.bsz I.ok.above⟩
theorem Inv.lt (I : Inv X pins σ H s) : X.env.locals < s.heap.objs.size := let ⟨_, hn, _⟩ := I.loc; hn.lt
theorem Inv.sz (I : Inv X pins σ H s) : X.s_0.heap.objs.size ≤ s.heap.objs.size := Nat.le_trans I.ok.above (Nat.le_of_lt I.lt)
theorem Inv.nofs (I : Inv X pins σ H s) {a : Addr} (h : s.heap.objs.size ≤ a) : a ∉ X.fs := fun hb => by
  obtain ⟨_, o, ho, _⟩ := I.ok.funs.mem hb
  exact absurd (Nat.lt_of_lt_of_le (Heap.lt_size ho) (Nat.le_trans I.sz h)) (Nat.lt_irrefl _)
theorem Inv.cne (I : Inv X pins σ H s) : ∀ x c, X.env.cells.lookup x = some c → c ≠ X.env.locals := fun x c e z => by
  obtain ⟨v, o, ho, hd⟩ := I.cell x c e
  obtain ⟨m, ⟨o', es, ep, ho', hd', _⟩, _⟩ := I.loc
  rw [z, ho'] at ho; cases ho; rw [hd'] at hd; cases hd
theorem Inv.funs (I : Inv X pins σ H s) : s.heap.FunFrames X.base X.outer := by
  have all : ∀ (l : List Env), (∀ b ∈ frs l, b ∈ X.fs) → X.s_0.heap.FunFrames X.base l → s.heap.FunFrames X.base l := by
    intro l
    induction l with
    | nil => intro _ _; trivial
    | cons env r ih =>
      intro hs hl
      obtain ⟨hk, ⟨L, o, hf, hn, ho, hd⟩, hr⟩ := hl
      have hL : L ∈ X.fs := hs L (by unfold frs; rw [List.filterMap_cons, hf]; exact List.mem_cons_self)
      obtain ⟨sl, e⟩ := I.base.slot L o ho (I.ok.frf L hL) hL fun z => I.ok.exfs L z hL
      exact ⟨hk, ⟨L, _, hf, hn, e, hd⟩, ih (fun b hb => hs b (by unfold frs; rw [List.filterMap_cons, hf]; exact List.mem_cons_of_mem _ hb)) hr⟩
  exact all X.outer (fun _ hb => hb) I.ok.funs
theorem Inv.stack (I : Inv X pins σ H s) : s.heap.FunFrames X.base X.stack := by
  rcases I.ok.stk with e | ⟨e, hf⟩
  · rw [e]; exact I.funs
  · rw [e]
    obtain ⟨m, hn, _⟩ := I.loc
    refine .cons (by rw [I.ok.kind]; decide) hf hn ?_ I.funs
    exact Heap.get?_none_of_le (Nat.le_trans I.ok.bsz I.ok.above)
theorem Inv.stkSub (I : Inv X pins σ H s) : ∀ b ∈ frs X.stack, b ∈ X.env.locals :: X.fs := fun b hb => by
  rcases I.ok.stk with e | ⟨e, hf⟩
  · rw [e] at hb; exact List.mem_cons_of_mem _ hb
  · rw [e] at hb
    unfold frs at hb
    rw [List.filterMap_cons, hf] at hb
    exact hb
theorem Inv.stkFree (I : Inv X pins σ H s) : ∀ b ∈ frs X.stack, H b = none := fun b hb => by
  rcases List.mem_cons.mp (I.stkSub b hb) with e | hb
  · rw [e]; exact I.free
  · obtain ⟨_, o, ho, _⟩ := I.ok.funs.mem hb
    exact I.base.free b o ho (I.ok.frf b hb) fun z => I.ok.exfs b z hb
theorem Inv.step {g' : Array GenState} {t' : Nat} {d' : Drawn} {ch : List Addr} (I : Inv X pins σ H s)
    (hch : ∀ b ∈ ch, (b ∈ X.ex ∨ X.s_0.heap.objs.size ≤ b) ∧ b ≠ X.env.locals ∧ (∀ x c, X.env.cells.lookup x = some c → c ≠ b) ∧ ∀ p ∈ X.pn ++ pins, p.1 ≠ b)
    (keep : ∀ b o, b ≠ X.env.locals → b ∉ X.fs → b ∉ ch → s.heap.get? b = some o → H b = none → h'.get? b = some o)
    (slot : ∀ b o, b ≠ X.env.locals → b ∈ X.fs → b ∉ ch → s.heap.get? b = some o → H b = none → ∃ sl, h'.get? b = some { o with slots := sl }) (free : ∀ b o, b ∉ ch → s.heap.get? b = some o → H b = none → H' b = none)
    (there : ∀ b o, b ∉ ch → s.heap.get? b = some o → ∃ o', h'.get? b = some o')
    (tups : ∀ b xs, H b = some (.tup xs) → H' b = some (.tup xs)) (frzs : ∀ b o u, H b = some (.frz o u) → H' b = some (.frz o u)) (tbls : ∀ b ps, H b = some (.tbl ps) → ∃ more, H' b = some (.tbl (ps ++ more)))
    (ns : ∀ m, s.heap.Ns X.env.locals m → h'.Ns X.env.locals m) (hok : HOk X.prog X.w H' h') (hg : AllBare g') :
    Inv X pins σ H' { s with heap := h', gens := g', drawn := d', toks := t' } := by
  have neL : ∀ b o, X.s_0.heap.get? b = some o → b ≠ X.env.locals := fun b o e => Nat.ne_of_lt (Nat.lt_of_lt_of_le (Heap.lt_size e) I.ok.above)
  have neC : ∀ b o, X.s_0.heap.get? b = some o → b ∉ X.ex → b ∉ ch := fun b o e hx hb => by
    rcases (hch b hb).1 with z | z
    · exact hx z
    · exact absurd (Nat.lt_of_lt_of_le (Heap.lt_size e) z) (Nat.lt_irrefl _)
  have cellK : ∀ x c, X.env.cells.lookup x = some c → ∀ v, s.heap.IsCell c v → h'.IsCell c v := fun x c e v ⟨o, ho, hd⟩ => by
    have nch : c ∉ ch := fun z => (hch c z).2.2.1 x c e rfl
    by_cases hc : c ∈ X.fs
    · obtain ⟨sl, q⟩ := slot c o (I.cne x c e) hc nch ho (I.freeC x c e)
      exact ⟨_, q, hd⟩
    · exact ⟨o, keep c o (I.cne x c e) hc nch ho (I.freeC x c e), hd⟩
  refine ⟨I.ok, I.os, hg, ⟨fun b o e n hb hx => ?_, fun b o e n hb hx => ?_, fun b o e n hx => ?_, fun b o e hx => ?_, fun b xs e => tups b xs (I.base.tups b xs e), fun b o xs e => frzs b o xs (I.base.frzs b o xs e), fun b ps e => ?_⟩, ?_, fun x c e => ?_, ?_, fun x c e => ?_, fun p hp => ?_, hok, I.len⟩
  · exact keep b o (neL b o e) hb (neC b o e hx) (I.base.keep b o e n hb hx) (I.base.free b o e n hx)
  · obtain ⟨sl, e1⟩ := I.base.slot b o e n hb hx
    obtain ⟨sl', e2⟩ := slot b _ (neL b o e) hb (neC b o e hx) e1 (I.base.free b o e n hx)
    exact ⟨sl', e2⟩
  · obtain ⟨o', e1⟩ := I.base.there b o e hx
    exact free b o' (neC b o e hx) e1 (I.base.free b o e n hx)
  · obtain ⟨o', e1⟩ := I.base.there b o e hx
    exact there b o' (neC b o e hx) e1
  · obtain ⟨m1, e1⟩ := I.base.tbls b ps e
    obtain ⟨m2, e2⟩ := tbls b _ e1
    exact ⟨m1 ++ m2, by rw [e2, Array.append_assoc]⟩
  · obtain ⟨m, hn, hl⟩ := I.loc
    refine ⟨m, ns m hn, fun i x v e1 e2 e3 => ?_⟩
    obtain ⟨u, r, l⟩ := hl i x v e1 e2 e3
    refine ⟨u, r, ?_⟩
    rcases l with l | ⟨k, c, e, z⟩
    · exact .inl l
    · exact .inr ⟨k, c, e, cellK x c e _ z⟩
  · obtain ⟨v, z⟩ := I.cell x c e
    exact ⟨v, cellK x c e v z⟩
  · obtain ⟨m, ⟨o, _, _, ho, _⟩, _⟩ := I.loc
    exact free _ o (fun z => (hch _ z).2.1 rfl) ho I.free
  · obtain ⟨v, o, ho, hd⟩ := I.cell x c e
    exact free c o (fun z => (hch c z).2.2.1 x c e rfl) ho (I.freeC x c e)
  · obtain ⟨e, n, ne, nf, d⟩ := I.pin p hp
    have nch : p.1 ∉ ch := fun z => (hch p.1 z).2.2.2 p hp rfl
    exact ⟨keep p.1 p.2 ne nf nch e n, free p.1 p.2 nch e n, ne, nf, d⟩
theorem Inv.un {t' : Nat} (I : Inv X pins σ H s) (u : Un X.fs [] H H' s.heap h') (hok : HOk X.prog X.w H' h') : Inv X pins σ H' { s with heap := h', toks := t' } := by
  obtain ⟨m, ⟨o, es, ep, ho, r⟩, _⟩ := id I.loc
  obtain ⟨sl, hL⟩ := u.any ho I.free (by simp)
  exact I.step (g' := s.gens) (d' := s.drawn) (ch := []) (fun _ z => nomatch z) (fun b o _ hb _ e n => u.keep b o e n hb (by simp)) (fun b o _ hb _ e n => u.slot b o e n hb (by simp)) (fun b o _ e n => u.free b o e n (by simp)) (fun b o _ e => u.there b o e (by simp)) u.tups u.frzs u.tbls (fun m' hm => by
    obtain ⟨o', es', ep', ho', r'⟩ := hm
    rw [ho] at ho'; cases ho'
    exact ⟨_, es', ep', hL, r'⟩) hok I.bare
theorem Inv.call {g' : Array GenState} {t' : Nat} {d' : Drawn} {ch : List Addr} (I : Inv X pins σ H s) (u : Un (frs X.stack) ch H H' s.heap h') (hok : HOk X.prog X.w H' h') (hg : AllBare g')
    (hch : ∀ b ∈ ch, (b ∈ X.ex ∨ X.s_0.heap.objs.size ≤ b) ∧ b ≠ X.env.locals ∧ (∀ x c, X.env.cells.lookup x = some c → c ≠ b) ∧ ∀ p ∈ X.pn ++ pins, p.1 ≠ b) :
    Inv X pins σ H' { s with heap := h', gens := g', drawn := d', toks := t' } := by
  obtain ⟨m, ⟨o, es, ep, ho, r⟩, _⟩ := id I.loc
  obtain ⟨sl, hL⟩ := u.any ho I.free fun z => (hch _ z).2.1 rfl
  exact I.step (ch := ch) hch (fun b o hL hb hc e n => u.keep b o e n (fun z => (List.mem_cons.mp (I.stkSub b z)).elim hL hb) hc) (fun b o _ _ hc e n => u.any e n hc) (fun b o hc e n => u.free b o e n hc) (fun b o hc e => u.there b o e hc) u.tups u.frzs u.tbls (fun m' hm => by
    obtain ⟨o', es', ep', ho', r'⟩ := hm
    rw [ho] at ho'; cases ho'
    exact ⟨_, es', ep', hL, r'⟩) hok hg
theorem Inv.turned {t' : Nat} {it : Addr} (I : Inv X pins σ H s) (k : ∀ b o, b ≠ it → s.heap.get? b = some o → h'.get? b = some o) (hn : H it = none) (hL : it ≠ X.env.locals)
    (h1 : it ∈ X.ex ∨ X.s_0.heap.objs.size ≤ it) (h2 : ∀ x c, X.env.cells.lookup x = some c → c ≠ it) (h3 : ∀ p ∈ X.pn ++ pins, p.1 ≠ it) : Inv X pins σ H { s with heap := h', toks := t' } := by
  have nit : ∀ b u, H b = some u → b ≠ it := fun b u e z => by rw [z, hn] at e; cases e
  refine I.step (g' := s.gens) (d' := s.drawn) (ch := [it]) (fun b hb => ?_) (fun b o _ _ hc e _ => k b o (fun z => hc (by simp [z])) e) (fun b o _ _ hc e _ => ⟨o.slots, k b o (fun z => hc (by simp [z])) e⟩) (fun _ _ _ _ n => n)
    (fun b o hc e => ⟨o, k b o (fun z => hc (by simp [z])) e⟩) (fun _ _ e => e) (fun _ _ _ e => e) (fun b ps e => ⟨#[], by rw [e]; simp⟩) (fun m hm => ?_) (fun b u e => ?_) I.bare
  · have e : b = it := by simpa using hb
    subst e
    exact ⟨h1, hL, h2, h3⟩
  · obtain ⟨o, es, ep, ho, r⟩ := hm
    exact ⟨o, es, ep, k _ o (Ne.symm hL) ho, r⟩
  · refine (I.hok b u e).stay (fun c v hc q => k c v ?_ q) (fun _ q => q) fun _ _ q => q
    rcases hc with z | z
    · rw [z]; exact nit b u e
    · exact nit c _ z
theorem Inv.tok (I : Inv X pins σ H s) (t : Nat) : Inv X pins σ H { s with toks := t } := I.un (h' := s.heap) (t' := t) Un.refl I.hok
theorem Inv.kept {t' : Nat} (I : Inv X pins σ H s) (k : ∀ b u, s.heap.get? b = some u → h'.get? b = some u) : Inv X pins σ H { s with heap := h', toks := t' } := I.un (Un.kept k) (I.hok.kept k)
theorem Inv.laid {a : Addr} {o : HO} {t' : Nat} (I : Inv X pins σ H s) (k : ∀ b u, s.heap.get? b = some u → h'.get? b = some u) (hp : s.heap.objs.size ≤ a) (new : ObjOk X.prog X.w (upd H a o) h' a o) :
    Inv X pins σ (upd H a o) { s with heap := h', toks := t' } := I.un (Un.laid k hp (I.hok.fresh hp)) (I.hok.laid k hp new)
theorem Inv.write {x e : Addr} {o : HO} {t' : Nat} (I : Inv X pins σ H s) (mu : Mut (H x)) (he : e = x ∨ H e = some (.own x)) (k : ∀ b u, b ≠ e → s.heap.get? b = some u → h'.get? b = some u) (heo : ∃ u, h'.get? e = some u)
    (new : ObjOk X.prog X.w (upd H x o) h' x o) : Inv X pins σ (upd H x o) { s with heap := h', toks := t' } := I.un (Un.write mu he k heo) (I.hok.write mu he k heo new)
theorem Inv.weak {σ' : List (Option V)} (I : Inv X pins σ H s) (hl : σ'.length = σ.length) (w : ∀ (i : Nat) v, σ'[i]? = some (some v) → σ[i]? = some (some v)) : Inv X pins σ' H s :=
  ⟨I.ok, I.os, I.bare, I.base, let ⟨m, hn, hl'⟩ := I.loc; ⟨m, hn, fun i x v e1 e2 e3 => hl' i x v e1 (w i v e2) e3⟩, I.cell, I.free, I.freeC, I.pin, I.hok, hl.trans I.len⟩
theorem Inv.pins_of {pins' : List (Addr × Obj)} (I : Inv X pins σ H s) (h : ∀ p ∈ pins', s.heap.get? p.1 = some p.2 ∧ H p.1 = none ∧ p.1 ≠ X.env.locals ∧ p.1 ∉ X.fs ∧ ∀ v, p.2.data ≠ .cell v) : Inv X pins' σ H s :=
  ⟨I.ok, I.os, I.bare, I.base, I.loc, I.cell, I.free, I.freeC, fun p hp => (List.mem_append.mp hp).elim (fun z => I.pin p (List.mem_append_left _ z)) (h p), I.hok, I.len⟩
theorem nodup_ix {N : List Str} (hN : N.Nodup) {i j : Nat} {x : Str} (a : N[i]? = some x) (b : N[j]? = some x) : i = j := by
  obtain ⟨h1, e1⟩ := List.getElem?_eq_some_iff.mp a
  obtain ⟨h2, e2⟩ := List.getElem?_eq_some_iff.mp b
  exact (List.getElem_inj hN).mp (e1.trans e2.symm)
theorem store_ok2 {M : Model} {A : Around} {E : Value → Shared → Prop} {i : Nat} {x : Str} {v : V} {u : Value} {Q : Unit → Shared → Prop} (I : Inv X pins σ H s) (hN : X.N.Nodup) (hi : X.N[i]? = some x) (hx : Loc X.env.scope x) (r : RelV v u)
    (h : ∀ s', Inv X pins (σ.set i (some v)) H s' → (∃ a, Heap.SameBut a s.heap s'.heap ∧ (a = X.env.locals ∨ X.env.cells.lookup x = some a)) → Q () s') (hf : X.fn x = true ∨ X.env.scope.names.lookup x = some .local := by first | exact .inl rfl | exact .inr rfl | assumption) : wpAny M A (storeName X.env x u) Q E s := by
  obtain ⟨m, hn, hl⟩ := id I.loc
  have hcls : (X.env.scope.kind == .class || (X.env.scope.kind == .module && X.env.locals != X.env.globals)) = false := by rw [I.ok.kind]; rfl
  have hiσ : i < σ.length := by rw [I.len]; exact (List.getElem?_eq_some_iff.mp hi).1
  have cne := I.cne
  have tracked : ∀ {a : Addr} {h' : Heap}, (∃ o, s.heap.get? a = some o ∧ H a = none) → Heap.SameBut a s.heap h' → HOk X.prog X.w H h' := fun {a h'} ha hs b ob e => by
    obtain ⟨_, _, hfree⟩ := ha
    refine (I.hok b ob e).stay (fun c w' hc q => (hs.2 c ?_).trans q) (fun _ q => q) fun _ _ q => q
    rintro rfl
    rcases hc with rfl | hc
    · rw [hfree] at e; cases e
    · rw [hfree] at hc; cases hc
  rcases hx with hk | hk
  · refine wpAny_storeName_local hk hn (fun h' hn' hs => ?_) hcls
    obtain ⟨oL, _, _, hoL, _⟩ := id hn
    refine h _ ⟨I.ok, I.os, I.bare, ⟨fun b o e n hb hx => ?_, fun b o e n hb hx => ?_, I.base.free, fun b o e hx => ?_, I.base.tups, I.base.frzs, I.base.tbls⟩, ⟨_, hn', fun j y v' e1 e2 e3 => ?_⟩, fun y c e => ?_, I.free, I.freeC, fun p hp => ?_, tracked ⟨oL, hoL, I.free⟩ hs, by simpa using I.len⟩ ⟨_, hs, .inl rfl⟩
    · exact (hs.2 b (Nat.ne_of_lt (Nat.lt_of_lt_of_le (Heap.lt_size e) I.ok.above))).trans (I.base.keep b o e n hb hx)
    · obtain ⟨sl, e1⟩ := I.base.slot b o e n hb hx
      exact ⟨sl, (hs.2 b (Nat.ne_of_lt (Nat.lt_of_lt_of_le (Heap.lt_size e) I.ok.above))).trans e1⟩
    · obtain ⟨o', e1⟩ := I.base.there b o e hx
      exact ⟨o', (hs.2 b (Nat.ne_of_lt (Nat.lt_of_lt_of_le (Heap.lt_size e) I.ok.above))).trans e1⟩
    · by_cases hj : j = i
      · subst hj
        rw [hi] at e1; cases e1
        rw [List.getElem?_set_self hiσ] at e2
        cases e2
        exact ⟨u, r, .inl ⟨hk, by simp⟩⟩
      · rw [List.getElem?_set_ne (Ne.symm hj)] at e2
        obtain ⟨u', r', q⟩ := hl j y v' e1 e2 e3
        refine ⟨u', r', ?_⟩
        rcases q with ⟨k, e⟩ | ⟨k, c, e, z⟩
        · refine .inl ⟨k, ?_⟩
          have : y ≠ x := fun e => hj (nodup_ix hN e1 (e ▸ hi))
          simp [this, e]
        · exact .inr ⟨k, c, e, z.sameBut hs (cne y c e)⟩
    · obtain ⟨w', z⟩ := I.cell y c e
      exact ⟨w', z.sameBut hs (cne y c e)⟩
    · obtain ⟨e, n, ne, nf, d⟩ := I.pin p hp
      exact ⟨(hs.2 p.1 ne).trans e, n, ne, nf, d⟩
  · have hfn : X.fn x = true := by
      rcases hf with z | z
      · exact z
      · rw [z] at hk; cases hk
    obtain ⟨c, hc⟩ := I.ok.has x (.inl hk)
    obtain ⟨w', z⟩ := I.cell x c hc
    refine wpAny_storeName_cell I.ok.kind hk hc z (fun h' hc' hs => ?_)
    obtain ⟨oc, hoc, hocd⟩ := id z
    refine h { s with heap := h' } ⟨I.ok, I.os, I.bare, ⟨fun b o e n hb hx => ?_, fun b o e n hb hx => ?_, I.base.free, fun b o e hx => ?_, I.base.tups, I.base.frzs, I.base.tbls⟩, ⟨m, hn.sameBut hs (Ne.symm (cne x c hc)), fun j y v' e1 e2 e3 => ?_⟩, fun y c' e => ?_, I.free, I.freeC, fun p hp => ?_, tracked ⟨oc, hoc, I.freeC x c hc⟩ hs, by simpa using I.len⟩ ⟨c, hs, .inr hc⟩
    · exact (hs.2 b (Nat.ne_of_lt (Nat.lt_of_lt_of_le (Heap.lt_size e) (I.ok.cab x c hfn hc)))).trans (I.base.keep b o e n hb hx)
    · obtain ⟨sl, e1⟩ := I.base.slot b o e n hb hx
      exact ⟨sl, (hs.2 b (Nat.ne_of_lt (Nat.lt_of_lt_of_le (Heap.lt_size e) (I.ok.cab x c hfn hc)))).trans e1⟩
    · obtain ⟨o', e1⟩ := I.base.there b o e hx
      exact ⟨o', (hs.2 b (Nat.ne_of_lt (Nat.lt_of_lt_of_le (Heap.lt_size e) (I.ok.cab x c hfn hc)))).trans e1⟩
    · by_cases hj : j = i
      · subst hj
        rw [hi] at e1; cases e1
        rw [List.getElem?_set_self hiσ] at e2
        cases e2
        exact ⟨u, r, .inr ⟨.inl hk, c, hc, hc'⟩⟩
      · rw [List.getElem?_set_ne (Ne.symm hj)] at e2
        obtain ⟨u', r', q⟩ := hl j y v' e1 e2 e3
        refine ⟨u', r', ?_⟩
        rcases q with q | ⟨k, c', e, z'⟩
        · exact .inl q
        · refine .inr ⟨k, c', e, z'.sameBut hs ?_⟩
          rintro rfl
          exact hj (nodup_ix hN e1 (I.ok.inj _ _ _ e hc ▸ hi))
    · by_cases hcc : c' = c
      · subst hcc; exact ⟨_, hc'⟩
      · obtain ⟨w2, z2⟩ := I.cell y c' e
        exact ⟨w2, z2.sameBut hs hcc⟩
    · obtain ⟨e, n, ne, nf, d⟩ := I.pin p hp
      refine ⟨(hs.2 p.1 ?_).trans e, n, ne, nf, d⟩
      intro q
      rw [q, hoc] at e
      have q' : oc = p.2 := Option.some.inj e
      exact d w' (by rw [← q']; exact hocd)
theorem store_ok {M : Model} {A : Around} {E : Value → Shared → Prop} {i : Nat} {x : Str} {v : V} {u : Value} {Q : Unit → Shared → Prop} (I : Inv X pins σ H s) (hN : X.N.Nodup) (hi : X.N[i]? = some x) (hx : Loc X.env.scope x) (r : RelV v u)
    (h : ∀ s', Inv X pins (σ.set i (some v)) H s' → Q () s') (hf : X.fn x = true ∨ X.env.scope.names.lookup x = some .local := by first | exact .inl rfl | exact .inr rfl | assumption) : wpAny M A (storeName X.env x u) Q E s :=
  store_ok2 I hN hi hx r (fun s' I' _ => h s' I') hf
theorem Inv.call' {s' : Shared} {ch : List Addr} (I : Inv X pins σ H s) (ho : s'.os = s.os) (u : Un (frs X.stack) ch H H' s.heap s'.heap) (hok : HOk X.prog X.w H' s'.heap) (hg : AllBare s'.gens)
    (hch : ∀ b ∈ ch, (b ∈ X.ex ∨ X.s_0.heap.objs.size ≤ b) ∧ b ≠ X.env.locals ∧ (∀ x c, X.env.cells.lookup x = some c → c ≠ b) ∧ ∀ p ∈ X.pn ++ pins, p.1 ≠ b) : Inv X pins σ H' s' := by
  obtain ⟨h', g', d', t', o'⟩ := s'
  have e : o' = s.os := ho
  subst e
  exact I.call (g' := g') (t' := t') (d' := d') u hok hg hch
end
abbrev XK := Value → Option Addr → Hp → Prop
abbrev St := List (Option V)
abbrev VK := V → Hp → Prop
abbrev TE := St → Hp → VK → Prop
abbrev TT := St → Hp → (Bool → Hp → Prop) → Prop
abbrev TA := St → Hp → (List V → Hp → Prop) → Prop
structure Ends where
  nx : St → Hp → Prop
  rt : VK
  bk : St → Hp → Prop := fun _ _ => False
  ct : St → Hp → Prop := fun _ _ => False
abbrev TS := Ends → St → Hp → Prop
def EP (X : Cx) (pins : List (Addr × Obj)) (σ : St) (Q : VK) (u : Value) (s' : Shared) : Prop := ∃ v H', Inv X pins σ H' s' ∧ RelV v u ∧ Q v H'
def TP (X : Cx) (pins : List (Addr × Obj)) (σ : St) (Q : Bool → Hp → Prop) (b : Bool) (s' : Shared) : Prop := ∃ H', Inv X pins σ H' s' ∧ Q b H'
def AP (X : Cx) (pins : List (Addr × Obj)) (σ : St) (Q : List V → Hp → Prop) (us : List Value) (s' : Shared) : Prop := ∃ vs H', Inv X pins σ H' s' ∧ Vals vs us ∧ Q vs H'
def SP (X : Cx) (pins : List (Addr × Obj)) (D : Ends) (f : Flow) (s' : Shared) : Prop :=
  match f with
  | .next => ∃ σ' H', Inv X pins σ' H' s' ∧ D.nx σ' H'
  | .brk => ∃ σ' H', Inv X pins σ' H' s' ∧ D.bk σ' H'
  | .cont => ∃ σ' H', Inv X pins σ' H' s' ∧ D.ct σ' H'
  | .ret u => ∃ v σ' H', Inv X pins σ' H' s' ∧ RelV v u ∧ D.rt v H'
def PE (X : Cx) (e : Expr) (t : TE) : Prop :=
  ∀ (pins : List (Addr × Obj)) (s : Shared) (σ : St) (H : Hp) (Q : VK), Inv X pins σ H s → t σ H Q → wpAny (model X.prog X.w) X.A (eval e X.env) (EP X pins σ Q) X.xe s
def PT (X : Cx) (e : Expr) (t : TT) : Prop :=
  ∀ (pins : List (Addr × Obj)) (s : Shared) (σ : St) (H : Hp) (Q : Bool → Hp → Prop), Inv X pins σ H s → t σ H Q → wpAny (model X.prog X.w) X.A (isTrue e X.env (eval e X.env)) (TP X pins σ Q) X.xe s
def PW (X : Cx) (e : Expr) (t : TT) : Prop :=
  ∀ (whole : Sem Value) (pins : List (Addr × Obj)) (s : Shared) (σ : St) (H : Hp) (Q : Bool → Hp → Prop), Inv X pins σ H s → t σ H Q → wpAny (model X.prog X.w) X.A (isTrue e X.env whole) (TP X pins σ Q) X.xe s
theorem PW.pt {X : Cx} {e : Expr} {t : TT} (h : PW X e t) : PT X e t := h _
def PA (X : Cx) (es : List Expr) (t : TA) : Prop :=
  ∀ (pos : Pos) (pins : List (Addr × Obj)) (s : Shared) (σ : St) (H : Hp) (Q : List V → Hp → Prop), Inv X pins σ H s → t σ H Q → wpAny (model X.prog X.w) X.A (spliced (backTo pos (starEach es X.env))) (AP X pins σ Q) X.xe s
def PS (X : Cx) (st : Stmt) (t : TS) : Prop :=
  ∀ (pins : List (Addr × Obj)) (s : Shared) (σ : St) (H : Hp) (D : Ends), Inv X pins σ H s → t D σ H → wpAny (model X.prog X.w) X.A (exec st X.env) (SP X pins D) X.xe s
def PSs (X : Cx) (st : List Stmt) (t : TS) : Prop :=
  ∀ (pins : List (Addr × Obj)) (s : Shared) (σ : St) (H : Hp) (D : Ends), Inv X pins σ H s → t D σ H → wpAny (model X.prog X.w) X.A (execs st X.env) (SP X pins D) X.xe s
theorem thn {α : Type} {t : Sem α} {Q Q' : α → Shared → Prop} {M : Model} {A : Around} {E : Value → Shared → Prop} {s : Shared} (h : wpAny M A t Q E s) (hQ : ∀ a s, Q a s → Q' a s) : wpAny M A t Q' E s := wpAny_mono h hQ fun _ _ x => x
end L2
namespace L2
open PySem PySem.Spec PyProof.Rows
section
variable {X : Cx}
theorem bin {a b : Expr} {ta tb : TE} (ha : PE X a ta) (hb : PE X b tb) {pins : List (Addr × Obj)} {s : Shared} {σ : St} {H : Hp} {R : V → V → Hp → Prop} (I : Inv X pins σ H s) (h : ta σ H fun x H1 => tb σ H1 fun y H2 => R x y H2)
    {α : Type} {Q : α → Shared → Prop} {f : Value → Value → Sem α}
    (hf : ∀ v u s2 x y H2, Inv X pins σ H2 s2 → RelV x v → RelV y u → R x y H2 → wpAny (model X.prog X.w) X.A (f v u) Q X.xe s2) :
    wpAny (model X.prog X.w) X.A (eval a X.env) (fun v s₁ => wpAny (model X.prog X.w) X.A (eval b X.env) (fun u s₂ => wpAny (model X.prog X.w) X.A (f v u) Q X.xe s₂) X.xe s₁) X.xe s := by
  refine thn (ha pins s σ H _ I h) fun v s1 ⟨x, H1, I1, r1, q1⟩ => ?_
  refine thn (hb pins s1 σ H1 _ I1 q1) fun u s2 ⟨y, H2, I2, r2, q2⟩ => ?_
  exact hf v u s2 x y H2 I2 r1 r2 q2
def tVar (i : Nat) : TE := fun σ H Q => ∃ v, σ[i]? = some (some v) ∧ Q v H
def tC (v : V) : TE := fun _ H Q => Q v H
theorem pe_var {i : Nat} {x : Str} {pos : Pos} (hN : X.N[i]? = some x) (hv : Vis X.env.scope x) (hd : (x == ("__debug__" : Str)) = false := by decide) (hcd : (x == ("__classdict__" : Str)) = false := by decide) : PE X (.Name x pos) (tVar i) := by
  intro pins s σ H Q I h
  obtain ⟨v, e, h⟩ := h
  obtain ⟨m, hn, hl⟩ := I.loc
  obtain ⟨u, r, l⟩ := hl i x v hN e hv
  have fin : EP X pins σ Q u s := ⟨v, H, I, r, h⟩
  rcases l with ⟨hk, hm⟩ | ⟨hk, c, hc, hcell⟩
  · exact wpAny_Name (wpAny_loadName_local I.ok.kind hk hn hm fin) hd
  · rcases hk with hk | hk
    · exact wpAny_Name (wpAny_loadName_cell I.ok.kind hk hc hcell fin) hd
    · exact wpAny_Name (wpAny_loadName_free I.ok.kind hk hc hcell fin hcd) hd
theorem pe_int {i j pos} : PE X (.Constant (.int i) j pos) (tC (.int i)) := fun _ _ _ H _ I h => wpAny_Constant_int ⟨.int i, H, I.tok _, ⟨_, rfl⟩, h⟩
def Gl (X : Cx) (x : Str) : Prop := X.env.kindOf x = some .globalImplicit
theorem ld_glob {E : Value → Shared → Prop} {pins : List (Addr × Obj)} {s : Shared} {σ : St} {H : Hp} {x : Str} {u : Value} {pos : Pos} {Q : Value → Shared → Prop} (I : Inv X pins σ H s) (hg : Gl X x) (hm : X.mg x = some u) (h : Q u s)
    (hd : (x == ("__debug__" : Str)) = false := by decide) : wpAny (model X.prog X.w) X.A (eval (.Name x pos) X.env) Q E s :=
  Calls.Name_function_global I.ok.kind hg (Calls.loadGlobal_global (by rw [I.ok.glob]; exact I.mod.glob.keeps I.bk) hm h) hd
theorem ld_blt {E : Value → Shared → Prop} {pins : List (Addr × Obj)} {s : Shared} {σ : St} {H : Hp} {x : Str} {u : Value} {pos : Pos} {Q : Value → Shared → Prop} (I : Inv X pins σ H s) (hg : Gl X x) (hm : X.mg x = none) (hv : bootBuiltins x = some u) (h : Q u s)
    (hn : x ≠ "__name__" := by decide) (hd : (x == ("__debug__" : Str)) = false := by decide) : wpAny (model X.prog X.w) X.A (eval (.Name x pos) X.env) Q E s := by
  obtain ⟨mb, h1, h2⟩ := I.mod.blt
  exact Calls.Name_function_global I.ok.kind hg (Calls.loadGlobal_builtin (by rw [I.ok.glob]; exact I.mod.glob.keeps I.bk) hm (by rw [I.ok.blt]; exact h1.keeps I.bk) ((h2 x hn).trans hv) h) hd
theorem pe_glob {x : Str} {v : V} {u : Value} {pos : Pos} (hg : Gl X x) (hm : X.mg x = some u) (r : RelV v u) (hd : (x == ("__debug__" : Str)) = false := by decide) : PE X (.Name x pos) (tC v) :=
  fun _ _ _ H _ I h => ld_glob I hg hm ⟨v, H, I, r, h⟩ hd
variable {a b : Expr} {ta tb : TE} {pos : Pos}
def PC (X : Cx) (op : CmpOp) (a b : Expr) (t : TE) : Prop :=
  ∀ (pins : List (Addr × Obj)) (s : Shared) (σ : St) (H : Hp) (Q : VK), Inv X pins σ H s → t σ H Q →
    wpAny (model X.prog X.w) X.A (eval a X.env) (fun v s₁ => wpAny (model X.prog X.w) X.A (eval b X.env) (fun u s₂ => wpAny (model X.prog X.w) X.A (compareOp op v u) (EP X pins σ Q) X.xe s₂) X.xe s₁) X.xe s
def tB (t : TE) : TT := fun σ H Q => t σ H fun x H1 => ∃ c, x = .bl c ∧ Q c H1
theorem pt_cmp {op : CmpOp} {t : TE} (h : PC X op a b t) (h1 : behindInMarks op b = false := by first | exact nobehind _ (by decide) (by decide) | rfl) : PT X (.Compare a [op] [b] pos) (tB t) := by
  intro pins s σ H Q I hw
  refine wpAny_isTrue_Compare1 (thn (h pins s σ H _ I hw) fun v s1 h1 => thn h1 fun u s2 h2 => thn h2 fun c s3 ⟨x, H1, I1, r1, q1⟩ => ?_) h1
  obtain ⟨d, rfl, q⟩ := q1
  cases r1
  exact wpAny_truthy_bool ⟨H1, I1, q⟩
theorem pt_val {e : Expr} {t : TE} (h : PE X e t) (he : ∀ whole, isTrue e X.env whole = (do let v ← whole; standAt e.pos; holding [v] (truthy v)) := by intro _; rfl) : PT X e (tB t) := by
  intro pins s σ H Q I hw
  refine isTrue_plain (thn (h pins s σ H _ I hw) fun v s1 ⟨x, H1, I1, r1, q1⟩ => ?_) (he _)
  obtain ⟨d, rfl, q⟩ := q1
  cases r1
  exact wpAny_truthy_bool ⟨H1, I1, q⟩
variable {tA tB' : TT} {rest : List Expr}
def tAnd (t u : TT) : TT := fun σ H Q => t σ H fun c H1 => if c = true then u σ H1 Q else Q false H1
def tOr (t u : TT) : TT := fun σ H Q => t σ H fun c H1 => if c = true then Q true H1 else u σ H1 Q
def tNot (t : TT) : TT := fun σ H Q => t σ H fun c H1 => Q (!c) H1
theorem pw_and1 (ha : PT X a tA) : PW X (.BoolOp .And [a] pos) tA := by
  intro wh pins s σ H Q I h
  refine isTrue_and (thn (ha pins s σ H Q I h) fun c s1 e => ?_)
  cases c with
  | true => exact isTrue_and_nil e
  | false => exact e
theorem pw_or1 (ha : PT X a tA) : PW X (.BoolOp .Or [a] pos) tA := by
  intro wh pins s σ H Q I h
  refine isTrue_or (thn (ha pins s σ H Q I h) fun c s1 e => ?_)
  cases c with
  | false => exact isTrue_or_nil e
  | true => exact e
theorem pw_and (ha : PT X a tA) (hb : PW X (.BoolOp .And (b :: rest) pos) tB') : PW X (.BoolOp .And (a :: b :: rest) pos) (tAnd tA tB') := by
  intro wh pins s σ H Q I h
  refine isTrue_and (thn (ha pins s σ H _ I h) fun c s1 ⟨H1, I1, q1⟩ => ?_)
  cases c with
  | true => exact hb wh pins s1 σ H1 Q I1 q1
  | false => exact ⟨H1, I1, q1⟩
theorem pw_or (ha : PT X a tA) (hb : PW X (.BoolOp .Or (b :: rest) pos) tB') : PW X (.BoolOp .Or (a :: b :: rest) pos) (tOr tA tB') := by
  intro wh pins s σ H Q I h
  refine isTrue_or (thn (ha pins s σ H _ I h) fun c s1 ⟨H1, I1, q1⟩ => ?_)
  cases c with
  | true => exact ⟨H1, I1, q1⟩
  | false => exact hb wh pins s1 σ H1 Q I1 q1
theorem pt_not (ha : PT X a tA) : PT X (.UnaryOp .Not a pos) (tNot tA) := by
  intro pins s σ H Q I h
  exact isTrue_not (ha pins s σ H (fun c H1 => Q (!c) H1) I h)
def tIf (t : TT) (ta tb : TE) : TE := fun σ H Q => t σ H fun c H1 => if c = true then ta σ H1 Q else tb σ H1 Q
theorem pe_ifExp {c : Expr} (hc : PT X c tA) (ha : PE X a ta) (hb : PE X b tb) : PE X (.IfExp c a b pos) (tIf tA ta tb) := by
  intro pins s σ H Q I h
  refine wpAny_IfExp (thn (hc pins s σ H _ I h) fun d s1 ⟨H1, I1, q1⟩ => ?_)
  cases d with
  | true => exact ha pins s1 σ H1 Q I1 q1
  | false => exact hb pins s1 σ H1 Q I1 q1
end
end L2
namespace L2
open PySem PySem.Spec PyProof.Rows
def SqL (K : PySem.W.Frag) (H : Hp) (a : Addr) (xs : List V) : Prop :=
  Rd H a (.lst xs) ∨
    ∃ (o : Obj) (its : Array Value) (n : Nat), K.lookup a = some o ∧ o.cls = .type "list" ∧ o.dict = none ∧ o.data = .seq its n ∧ its.size ≤ sizeLine ∧ Vals xs its.toList
def SqT (K : PySem.W.Frag) (H : Hp) (a : Addr) (xs : List V) : Prop :=
  Rd H a (.tup xs) ∨
    ∃ (o : Obj) (its : Array Value) (n : Nat), K.lookup a = some o ∧ o.cls = .type "tuple" ∧ o.data = .seq its n ∧ its.size ≤ sizeLine ∧ Vals xs its.toList
def absV : Value → Option V
  | .none => some .non
  | .bool b => some (.bl b)
  | .int i _ => some (.int i)
  | .str x _ => some (.str x)
  | .bytes b _ => some (.byt b)
  | .float b _ => some (.flt b)
  | .ref a => some (.ref a)
  | .type n => some (.ty n)
  | _ => none
theorem RelV.abs {x : V} {u : Value} (r : RelV x u) : absV u = some x := by
  cases x with
  | non => cases r; rfl
  | bl _ => cases r; rfl
  | int _ => obtain ⟨t, rfl⟩ := r; rfl
  | str _ => obtain ⟨t, rfl⟩ := r; rfl
  | byt _ => obtain ⟨t, rfl⟩ := r; rfl
  | flt _ => obtain ⟨t, rfl⟩ := r; rfl
  | ref _ => cases r; rfl
  | ty _ => cases r; rfl
theorem RelV.inj {x y : V} {u : Value} (r : RelV x u) (q : RelV y u) : x = y := Option.some.inj (r.abs.symm.trans q.abs)
theorem Vals.inj : ∀ {xs ys : List V} {us : List Value}, Vals xs us → Vals ys us → xs = ys
  | _, _, _, .nil, .nil => rfl
  | _, _, _, .cons r t, .cons r' t' => by rw [r.inj r', Vals.inj t t']
section
variable {X : Cx} {pins : List (Addr × Obj)} {σ : St} {H : Hp} {s : Shared} {a : Addr} {xs ys : List V}
theorem SqL.of {K : PySem.W.Frag} (h : H a = some (.lst xs)) : SqL K H a xs := .inl (.inl h)
theorem SqT.of {K : PySem.W.Frag} (h : H a = some (.tup xs)) : SqT K H a xs := .inl (.inl h)
theorem Inv.list (I : Inv X pins σ H s) (h : SqL X.K H a xs) : ∃ its : List Value, Vals xs its ∧ PlainL s.heap a its.toArray ∧ xs.length ≤ sizeLine := by
  rcases h with h | ⟨o, its, n, hk, hc, hd, hs, hz, r⟩
  · obtain ⟨z, its, n, r, e⟩ := h.ok I.hok
    exact ⟨its, r, ⟨_, n, e, rfl, rfl, rfl⟩, z⟩
  · refine ⟨its.toList, r, ⟨o, n, I.kIn a o hk, hc, hd, by simpa using hs⟩, ?_⟩
    have e := r.length
    simp only [Array.length_toList] at e
    omega
theorem Inv.tuple (I : Inv X pins σ H s) (h : SqT X.K H a xs) : ∃ its : List Value, Vals xs its ∧ IsTup s.heap a its.toArray ∧ xs.length ≤ sizeLine := by
  rcases h with h | ⟨o, its, n, hk, hc, hs, hz, r⟩
  · obtain ⟨z, its, r, p⟩ := h.ok I.hok
    exact ⟨its, r, p, z⟩
  · refine ⟨its.toList, r, ⟨o, I.kIn a o hk, hc, n, by simpa using hs⟩, ?_⟩
    have e := r.length
    simp only [Array.length_toList] at e
    omega
theorem Inv.list_inj (I : Inv X pins σ H s) (h : SqL X.K H a xs) (h' : SqL X.K H a ys) : xs = ys := by
  obtain ⟨its, r, ⟨o, n, e, _, _, d⟩, _⟩ := I.list h
  obtain ⟨its', r', ⟨o', n', e', _, _, d'⟩, _⟩ := I.list h'
  rw [e] at e'; cases e'
  rw [d] at d'
  injection d' with d1 _
  have : its = its' := by simpa using congrArg Array.toList d1
  subst this
  exact r.inj r'
end
abbrev Cx.wish (X : Cx) (E : Value → Shared → Prop) : Cx := { X with xe := E }
abbrev Cx.nox (X : Cx) : Cx := X.wish fun _ _ => False
theorem Cx.Ok.wish {X : Cx} (ok : X.Ok) (E : Value → Shared → Prop) : (X.wish E).Ok :=
  ⟨ok.mod, ok.kind, ok.glob, ok.blt, ok.above, ok.inj, ok.has, ok.cab, ok.hd, ok.frames, ok.stk, ok.exf, ok.bs, ok.bsz, ok.noex, ok.exfs, ok.funs, ok.frf⟩
theorem Cx.Ok.unwish {X : Cx} {E : Value → Shared → Prop} (ok : (X.wish E).Ok) : X.Ok :=
  ⟨ok.mod, ok.kind, ok.glob, ok.blt, ok.above, ok.inj, ok.has, ok.cab, ok.hd, ok.frames, ok.stk, ok.exf, ok.bs, ok.bsz, ok.noex, ok.exfs, ok.funs, ok.frf⟩
section
variable {X : Cx} {pins : List (Addr × Obj)} {σ : St} {H : Hp} {s : Shared} {E : Value → Shared → Prop}
theorem Inv.wish (I : Inv X pins σ H s) (E : Value → Shared → Prop) : Inv (X.wish E) pins σ H s := ⟨I.ok.wish E, I.os, I.bare, I.base, I.loc, I.cell, I.free, I.freeC, I.pin, I.hok, I.len⟩
theorem Inv.unwish (I : Inv (X.wish E) pins σ H s) : Inv X pins σ H s := ⟨I.ok.unwish, I.os, I.bare, I.base, I.loc, I.cell, I.free, I.freeC, I.pin, I.hok, I.len⟩
theorem SP.unwish {D : Ends} {f : Flow} {s' : Shared} (h : SP (X.wish E) pins D f s') : SP X pins D f s' := by
  cases f with
  | next => obtain ⟨σ', H', I, q⟩ := h; exact ⟨σ', H', I.unwish, q⟩
  | brk => obtain ⟨σ', H', I, q⟩ := h; exact ⟨σ', H', I.unwish, q⟩
  | cont => obtain ⟨σ', H', I, q⟩ := h; exact ⟨σ', H', I.unwish, q⟩
  | ret u => obtain ⟨v, σ', H', I, r, q⟩ := h; exact ⟨v, σ', H', I.unwish, r, q⟩
theorem PSs.nox {st : List Stmt} {t : TS} (h : PSs X.nox st t) : PSs X st t := fun pins s σ H D I hw =>
  wpAny_mono (h pins s σ H D (I.wish _) hw) (fun _ _ q => q.unwish) fun _ _ z => False.elim z
end
section
variable {X : Cx} {st : Stmt} {rest : List Stmt} {t u : TS} {e : Expr} {te : TE} {pos : Pos}
def tNext : TS := fun D σ H => D.nx σ H
def tSeq (t u : TS) : TS := fun D σ H => t { D with nx := u D } σ H
theorem pss_nil : PSs X [] tNext := fun _ _ σ H _ I h => wpAny_execs_nil ⟨σ, H, I, h⟩
theorem pss_cons (h1 : PS X st t) (h2 : PSs X rest u) : PSs X (st :: rest) (tSeq t u) := by
  intro pins s σ H D I h
  refine wpAny_execs_cons (thn (h1 pins s σ H { D with nx := u D } I h) fun f s1 q => ?_)
  cases f with
  | next =>
    obtain ⟨σ', H', I', q⟩ := q
    exact h2 pins s1 σ' H' D I' q
  | ret v => exact q
  | brk => exact q
  | cont => exact q
theorem pss_one (h1 : PS X st t) : PSs X [st] t := by
  intro pins s σ H D I h
  refine wpAny_execs_cons (thn (h1 pins s σ H D I h) fun f s1 q => ?_)
  cases f with
  | next => exact wpAny_execs_nil q
  | ret v => exact q
  | brk => exact q
  | cont => exact q
theorem Inv.quiet {pins : List (Addr × Obj)} {σ : St} {H : Hp} {s : Shared} (I : Inv X pins σ H s) : interactive X.env = false := by simp [interactive, I.ok.kind]
def tDrop (te : TE) : TS := fun D σ H => te σ H fun _ H1 => D.nx σ H1
theorem ps_expr (he : PE X e te) (hs : swapsWith e none pos.line X.env = pure false := by rfl) : PS X (.Expr e pos) (tDrop te) := by
  intro pins s σ H D I h
  exact wpAny_Expr_any (thn (he pins s σ H _ I h) fun v s1 ⟨x, H1, I1, r1, q1⟩ => ⟨σ, H1, I1, q1⟩) I.quiet hs
def tRet (te : TE) : TS := fun D σ H => te σ H D.rt
theorem ps_ret (he : PE X e te) : PS X (.Return (some e) pos) (tRet te) := by
  intro pins s σ H D I h
  exact wpAny_Return_some (thn (he pins s σ H _ I h) fun v s1 ⟨x, H1, I1, r1, q1⟩ => ⟨x, σ, H1, I1, r1, q1⟩)
def tIfS (c : TT) (t u : TS) : TS := fun D σ H => c σ H fun b H1 => if b = true then t D σ H1 else u D σ H1
theorem ps_if {c : Expr} {a b : List Stmt} {tc : TT} (hc : PT X c tc) (ha : PSs X a t) (hb : PSs X b u) : PS X (.If c a b pos) (tIfS tc t u) := by
  intro pins s σ H D I h
  refine wpAny_If (thn (hc pins s σ H _ I h) fun d s1 ⟨H1, I1, q1⟩ => ?_)
  cases d with
  | true => exact ha pins s1 σ H1 D I1 q1
  | false => exact hb pins s1 σ H1 D I1 q1
end
abbrev TG := V → St → Hp → (St → Hp → Prop) → Prop
abbrev TGs := List V → St → Hp → (St → Hp → Prop) → Prop
def PG (X : Cx) (target : Expr) (t : TG) : Prop :=
  ∀ (pins : List (Addr × Obj)) (s : Shared) (σ : St) (H : Hp) (v : V) (u : Value) (Q : St → Hp → Prop), Inv X pins σ H s → RelV v u → t v σ H Q →
    wpAny (model X.prog X.w) X.A (assign target X.env u) (fun _ s' => ∃ σ' H', Inv X pins σ' H' s' ∧ Q σ' H') X.xe s
def PGs (X : Cx) (ts : List Expr) (t : TGs) : Prop :=
  ∀ (pins : List (Addr × Obj)) (s : Shared) (σ : St) (H : Hp) (vs : List V) (us : List Value) (Q : St → Hp → Prop), Inv X pins σ H s → Vals vs us → t vs σ H Q →
    wpAny (model X.prog X.w) X.A (assignInOrder ((assignEach ts X.env).map (·.2)) us) (fun _ s' => ∃ σ' H', Inv X pins σ' H' s' ∧ Q σ' H') X.xe s
abbrev TSet := V → V → V → Hp → (Hp → Prop) → Prop
def PSet (X : Cx) (t : TSet) : Prop :=
  ∀ (pins : List (Addr × Obj)) (s : Shared) (σ : St) (H : Hp) (o i v : V) (ov iv u : Value) (Q : Hp → Prop), Inv X pins σ H s → RelV o ov → RelV i iv → RelV v u → t o i v H Q →
    wpAny (model X.prog X.w) X.A (setItem ov iv u) (fun _ s' => ∃ H', Inv X pins σ H' s' ∧ Q H') X.xe s
abbrev TIp := V → V → Hp → VK → Prop
def PIp (X : Cx) (op : Operator) (t : TIp) : Prop :=
  ∀ (pins : List (Addr × Obj)) (s : Shared) (σ : St) (H : Hp) (x y : V) (v u : Value) (Q : VK), Inv X pins σ H s → RelV x v → RelV y u → t x y H Q →
    wpAny (model X.prog X.w) X.A (inplaceOp op v u) (EP X pins σ Q) X.xe s
section
variable {X : Cx} {pos : Pos}
def gName (i : Nat) : TG := fun v σ H Q => Q (σ.set i (some v)) H
theorem pg_name {i : Nat} {x : Str} (hN : X.N.Nodup) (hi : X.N[i]? = some x) (hx : Loc X.env.scope x) (hf : X.fn x = true ∨ X.env.scope.names.lookup x = some .local := by first | exact .inl rfl | exact .inr rfl | assumption) : PG X (.Name x pos) (gName i) := by
  intro pins s σ H v u Q I r h
  exact wpAny_assign_Name (store_ok I hN hi hx r (fun s' I' => ⟨_, H, I', h⟩) hf)
def gNil : TGs := fun vs σ H Q => vs = [] ∧ Q σ H
def gCons (t : TG) (u : TGs) : TGs := fun vs σ H Q => ∃ v r, vs = v :: r ∧ t v σ H fun σ' H' => u r σ' H' Q
theorem pgs_nil : PGs X [] gNil := by
  intro pins s σ H vs us Q I r h
  obtain ⟨e, h⟩ := h
  subst e
  cases r
  exact assignInOrder_nil ⟨σ, H, I, h⟩
theorem pgs_cons {e : Expr} {es : List Expr} {t : TG} {u : TGs} (h1 : PG X e t) (h2 : PGs X es u)
    (hs : (assignEach (e :: es) X.env).map (·.2) = assign e X.env :: (assignEach es X.env).map (·.2) := by rfl) : PGs X (e :: es) (gCons t u) := by
  intro pins s σ H vs us Q I r h
  obtain ⟨v, vr, e1, h⟩ := h
  subst e1
  cases r with
  | cons r rr =>
    rw [hs]
    refine assignInOrder_cons (thn (h1 pins s σ H _ _ _ I r h) fun _ s1 ⟨σ1, H1, I1, q1⟩ => ?_)
    exact h2 pins s1 σ1 H1 _ _ Q I1 rr q1
def gTup (K : PySem.W.Frag) (n : Nat) (t : TGs) : TG := fun v σ H Q => ∃ a xs, v = .ref a ∧ SqT K H a xs ∧ xs.length = n ∧ t xs σ H Q
theorem pg_tup {es : List Expr} {k : Nat} {t : TGs} {n : Nat} (hc : X.calm = true) (h : PGs X es t)
    (hn : (assignEach es X.env).length = n := by rfl) (hst : (assignEach es X.env).findIdx? (·.1) = none := by rfl) : PG X (.Tuple es k pos) (gTup X.K n t) := by
  intro pins s σ H v u Q I r hw
  obtain ⟨a, xs, e1, hq, hl, hw⟩ := hw
  subst e1
  cases r
  obtain ⟨its, rv, ht, hz⟩ := I.tuple hq
  refine assign_Tuple_tuple (I.ok.hd hc) ht (by simp [hn, ← hl, rv.length]) hst fun h' hx => ?_
  have I1 : Inv X pins σ H { s with heap := h' } := I.kept (t' := s.toks) fun b o e => hx b o (Nat.ne_of_lt (Heap.lt_size e)) e
  exact h pins _ σ H xs _ Q I1 (by simpa using rv) hw
def gSub (to ti : TE) (t : TSet) : TG := fun v σ H Q => to σ H fun o H1 => ti σ H1 fun i H2 => t o i v H2 fun H3 => Q σ H3
theorem pg_sub {o i : Expr} {to ti : TE} {t : TSet} (ho : PE X o to) (hi : PE X i ti) (hs : PSet X t)
    (ha : ∀ v, assign (.Subscript o i pos) X.env v = (do
      let ov ← holding [v] (eval o X.env)
      let iv ← holding [v, ov] (eval i X.env)
      standAt pos
      holding [v, ov, iv] (setItem ov iv v)
      release [v, ov, iv] []) := by intro _; rfl) : PG X (.Subscript o i pos) (gSub to ti t) := by
  intro pins s σ H v u Q I r h
  rw [ha]
  refine wpAny_bind (wpAny_holding (thn (ho pins s σ H _ I h) fun ov s1 ⟨x, H1, I1, r1, q1⟩ => ?_))
  refine wpAny_bind (wpAny_holding (thn (hi pins s1 σ H1 _ I1 q1) fun iv s2 ⟨y, H2, I2, r2, q2⟩ => ?_))
  refine wpAny_bind (wpAny_standAt (wpAny_bind (wpAny_holding (thn (hs pins s2 σ H2 x y v ov iv u _ I2 r1 r2 r q2) fun _ s3 ⟨H3, I3, q3⟩ => ?_))))
  exact wpAny_release ⟨σ, H3, I3, q3⟩
def tAsg (te : TE) (g : TG) : TS := fun D σ H => te σ H fun x H1 => g x σ H1 D.nx
theorem ps_asg {tg e : Expr} {te : TE} {g : TG} (he : PE X e te) (hg : PG X tg g) (hs : swapsWithSole [tg] e pos.line X.env = pure false := by rfl) (hw : swappedStores [tg] e X.env = pure none := by rfl)
    (h1 : (assignEach [tg] X.env).map (·.2) = [assign tg X.env] := by rfl) : PS X (.Assign [tg] e pos) (tAsg te g) := by
  intro pins s σ H D I h
  refine wpAny_Assign_stores (thn (he pins s σ H _ I h) fun v s1 ⟨x, H1, I1, r1, q1⟩ => ?_) hs hw
  rw [h1]
  exact thn (hg pins s1 σ H1 x v _ I1 r1 q1) fun _ s2 q => q
theorem ps_set {i : Nat} {x : Str} {e : Expr} {te : TE} {pos' : Pos} (hN : X.N.Nodup) (hi : X.N[i]? = some x) (hx : Loc X.env.scope x) (he : PE X e te) (hs : swapsWith e (some (.Name x pos')) pos.line X.env = pure false := by rfl) (hf : X.fn x = true ∨ X.env.scope.names.lookup x = some .local := by first | exact .inl rfl | exact .inr rfl | assumption) :
    PS X (.Assign [.Name x pos'] e pos) (tAsg te (gName i)) := by
  intro pins s σ H D I h
  refine wpAny_Assign_Name (thn (he pins s σ H _ I h) fun v s1 ⟨y, H1, I1, r1, q1⟩ => ?_) hs
  exact store_ok I1 hN hi hx r1 (fun s2 I2 => ⟨_, H1, I2, q1⟩) hf
def tAug (i : Nat) (te : TE) (ti : TIp) : TS := fun D σ H => ∃ x, σ[i]? = some (some x) ∧ te σ H fun y H1 => ti x y H1 fun z H2 => D.nx (σ.set i (some z)) H2
theorem ps_aug {i : Nat} {x : Str} {e : Expr} {te : TE} {op : Operator} {ti : TIp} {pos' : Pos} (hN : X.N.Nodup) (hi : X.N[i]? = some x) (hx : Loc X.env.scope x) (he : PE X e te) (ho : PIp X op ti) (hf : X.fn x = true ∨ X.env.scope.names.lookup x = some .local := by first | exact .inl rfl | exact .inr rfl | assumption) :
    PS X (.AugAssign (.Name x pos') op e pos) (tAug i te ti) := by
  intro pins s σ H D I h
  obtain ⟨v, e1, h⟩ := h
  obtain ⟨m, hn, hl⟩ := I.loc
  have vis : Vis X.env.scope x := by rcases hx with k | k; exact .inl k; exact .inr (.inl k)
  obtain ⟨u, r, l⟩ := hl i x v hi e1 vis
  refine wpAny_AugAssign_Name ?_
  have go : wpAny (model X.prog X.w) X.A (eval e X.env) (fun w s₂ => wpAny (model X.prog X.w) X.A (inplaceOp op u w) (fun r s₃ => wpAny (model X.prog X.w) X.A (storeName X.env x r) (fun _ => SP X pins D .next) X.xe s₃) X.xe s₂) X.xe s := by
    refine thn (he pins s σ H _ I h) fun w s1 ⟨y, H1, I1, r1, q1⟩ => ?_
    refine thn (ho pins s1 σ H1 v y u w _ I1 r r1 q1) fun z s2 ⟨zv, H2, I2, r2, q2⟩ => ?_
    exact store_ok I2 hN hi hx r2 (fun s3 I3 => ⟨_, H2, I3, q2⟩) hf
  rcases l with ⟨hk, hm⟩ | ⟨hk, c, hc, hcell⟩
  · exact wpAny_loadName_local I.ok.kind hk hn hm go
  · rcases hk with hk | hk
    · exact wpAny_loadName_cell I.ok.kind hk hc hcell go
    · rcases hx with k | k
      · have : X.env.scope.names.lookup x = some .free := hk
        rw [k] at this; cases this
      · have : X.env.scope.names.lookup x = some .free := hk
        rw [k] at this; cases this
def tAugS (to ti te : TE) (tget : V → V → Hp → VK → Prop) (tip : TIp) (tset : TSet) : TS := fun D σ H => to σ H fun o H1 => ti σ H1 fun i H2 => tget o i H2 fun x H3 => te σ H3 fun y H4 => tip x y H4 fun z H5 => tset o i z H5 fun H6 => D.nx σ H6
def PGet (X : Cx) (t : V → V → Hp → VK → Prop) : Prop :=
  ∀ (pins : List (Addr × Obj)) (s : Shared) (σ : St) (H : Hp) (o i : V) (ov iv : Value) (Q : VK), Inv X pins σ H s → RelV o ov → RelV i iv → t o i H Q →
    wpAny (model X.prog X.w) X.A (getItem ov iv) (EP X pins σ Q) X.xe s
theorem ps_augS {o i e : Expr} {to ti te : TE} {tget : V → V → Hp → VK → Prop} {tip : TIp} {tset : TSet} {op : Operator} {tpos : Pos} (ho : PE X o to) (hi : PE X i ti) (hg : PGet X tget) (he : PE X e te) (hp : PIp X op tip) (hs : PSet X tset)
    (ha : ∀ ov iv new, augStore i ov iv new = (do holding [new, ov, iv] (setItem ov iv new); release [new, ov, iv] []; pure .next) := by intros; rfl) : PS X (.AugAssign (.Subscript o i tpos) op e pos) (tAugS to ti te tget tip tset) := by
  intro pins s σ H D I h
  refine wpAny_AugAssign_SubscriptAny (thn (ho pins s σ H _ I h) fun ov s1 ⟨x1, H1, I1, r1, q1⟩ => ?_) ha
  refine thn (hi pins s1 σ H1 _ I1 q1) fun iv s2 ⟨x2, H2, I2, r2, q2⟩ => ?_
  refine thn (hg pins s2 σ H2 x1 x2 ov iv _ I2 r1 r2 q2) fun old s3 ⟨x3, H3, I3, r3, q3⟩ => ?_
  refine thn (he pins s3 σ H3 _ I3 q3) fun v s4 ⟨x4, H4, I4, r4, q4⟩ => ?_
  refine thn (hp pins s4 σ H4 x3 x4 old v _ I4 r3 r4 q4) fun new s5 ⟨x5, H5, I5, r5, q5⟩ => ?_
  exact thn (hs pins s5 σ H5 x1 x2 x5 ov iv new _ I5 r1 r2 r5 q5) fun _ s6 ⟨H6, I6, q6⟩ => ⟨σ, H6, I6, q6⟩
def ipI (f : Int → Int → Int) : TIp := fun x y H Q => ∃ i j, x = .int i ∧ y = .int j ∧ Q (.int (f i j)) H
theorem ip_add : PIp X .Add (ipI fun i j => i + j) := by
  intro pins s σ H x y v u Q I r1 r2 h
  obtain ⟨i, j, e1, e2, q⟩ := h
  subst e1; subst e2
  obtain ⟨t, rfl⟩ := r1
  obtain ⟨t', rfl⟩ := r2
  exact iadd_int ⟨.int _, H, I.tok _, ⟨_, rfl⟩, q⟩
theorem ip_sub : PIp X .Sub (ipI fun i j => i - j) := by
  intro pins s σ H x y v u Q I r1 r2 h
  obtain ⟨i, j, e1, e2, q⟩ := h
  subst e1; subst e2
  obtain ⟨t, rfl⟩ := r1
  obtain ⟨t', rfl⟩ := r2
  exact isub_int ⟨.int _, H, I.tok _, ⟨_, rfl⟩, q⟩
end
section
variable {X : Cx} {pos : Pos}
def tWhile (c : TT) (tb : TS) : TS := fun D σ H => ∃ W : Nat → St → Hp → Prop, (∃ m, W m σ H) ∧ ∀ m σ H, W m σ H →
  c σ H fun b H1 => if b = true then ∃ N : St → Hp → Prop, (∀ σ' H', N σ' H' → ∃ m', m' < m ∧ W m' σ' H') ∧ tb { D with nx := N, ct := N, bk := D.nx } σ H1 else D.nx σ H1
theorem ps_while {c : Expr} {body : List Stmt} {tc : TT} {tb : TS} (hp : PassesOwn (model X.prog X.w) X.A X.env X.xe) (hc : PT X c tc) (hb : PSs X body tb) : PS X (.While c body [] pos) (tWhile tc tb) := by
  intro pins s σ H D I h
  obtain ⟨W, ⟨m0, w0⟩, turn⟩ := h
  refine wpAny_While (codeAny_whileLoop (fun n s' => ∃ σ' H', Inv X pins σ' H' s' ∧ W n σ' H') ?_ m0 ⟨σ, H, I, w0⟩)
  rintro n s1 ⟨σ1, H1, I1, w1⟩
  refine wpAny_passesOwn hp (thn (hc pins s1 σ1 H1 _ I1 (turn n σ1 H1 w1)) fun b s2 ⟨H2, I2, q2⟩ => ?_)
  cases b with
  | true =>
    obtain ⟨N, hN, q2⟩ := q2
    rw [if_pos rfl]
    refine wpAny_passesOwn hp (thn (hb pins s2 σ1 H2 _ I2 q2) fun f s3 q3 => ?_)
    cases f with
    | next =>
      obtain ⟨σ3, H3, I3, n3⟩ := q3
      obtain ⟨m', hm, w3⟩ := hN σ3 H3 n3
      exact ⟨m', hm, σ3, H3, I3, w3⟩
    | cont =>
      obtain ⟨σ3, H3, I3, n3⟩ := q3
      obtain ⟨m', hm, w3⟩ := hN σ3 H3 n3
      exact ⟨m', hm, σ3, H3, I3, w3⟩
    | brk => exact q3
    | ret v => exact q3
  | false =>
    rw [if_neg Bool.false_ne_true]
    exact wpAny_execs_nil ⟨σ1, H2, I2, q2⟩
end
structure It where
  go : Nat → Hp → Prop
  yld : Nat → Hp → V → Hp → Prop
  stop : Nat → Hp → Prop
def FpOk (X : Cx) (pins : List (Addr × Obj)) (H : Hp) (b : Addr) : Prop :=
  H b = none ∧ b ≠ X.env.locals ∧ b ∉ X.fs ∧ (b ∈ X.ex ∨ X.s_0.heap.objs.size ≤ b) ∧ (∀ x c, X.env.cells.lookup x = some c → c ≠ b) ∧ ∀ p ∈ X.pn ++ pins, p.1 ≠ b
theorem Inv.fpOk {X : Cx} {pins : List (Addr × Obj)} {σ : St} {H H' : Hp} {s : Shared} {b : Addr} (I : Inv X pins σ H s) (hb : s.heap.objs.size ≤ b) (hn : H' b = none) : FpOk X pins H' b := by
  refine ⟨hn, Nat.ne_of_gt (Nat.lt_of_lt_of_le I.lt hb), I.nofs hb, .inr (Nat.le_trans I.sz hb), fun x c e z => ?_, fun p hp z => ?_⟩
  · obtain ⟨v, q⟩ := I.cell x c e
    exact absurd (Nat.lt_of_lt_of_le q.lt (by rw [z]; exact hb)) (Nat.lt_irrefl _)
  · exact absurd (Nat.lt_of_lt_of_le (Heap.lt_size (I.pin p hp).1) (by rw [z]; exact hb)) (Nat.lt_irrefl _)
structure Turn (P : Program) (w : World) (K : PySem.W.Frag) (tg : Expr) (J : It) (fp : List Addr) (it : Addr) (tn : Nat → Heap → Prop) : Prop where
  mem : it ∈ fp
  obj : ∀ i h, tn i h → ∀ b ∈ fp, ∃ o, h.get? b = some o ∧ ∀ v, o.data ≠ .cell v
  keep : ∀ i h h', tn i h → (∀ b ∈ fp, ∀ o, h.get? b = some o → h'.get? b = some o) → tn i h'
  item : ∀ (X : Cx), X.prog = P → X.w = w → X.K = K → X.calm = true → ∀ (i : Nat) (pins : List (Addr × Obj)) (s : Shared) (σ : St) (H : Hp) (E : Value → Shared → Prop), Inv X pins σ H s → (∀ b ∈ fp, FpOk X pins H b) → tn i s.heap → J.go i H →
    wpAny (model P w) X.A (pyNext (.ref it)) (fun r s1 => ∃ u, r = some u ∧
      wpAny (model P w) X.A (letOwnedTupleGo tg (.ref it) u) (fun _ s2 => ∃ x H', Inv X pins σ H' s2 ∧ RelV x u ∧ J.yld i H x H' ∧ tn (i + 1) s2.heap ∧ ∀ b ∈ fp, H' b = none) E s1) E s
  done : ∀ (X : Cx), X.prog = P → X.w = w → X.K = K → X.calm = true → ∀ (i : Nat) (pins : List (Addr × Obj)) (s : Shared) (σ : St) (H : Hp) (E : Value → Shared → Prop), Inv X pins σ H s → (∀ b ∈ fp, FpOk X pins H b) → tn i s.heap → J.stop i H →
    wpAny (model P w) X.A (pyNext (.ref it)) (fun r s1 => r = none ∧ Inv X pins σ H s1) E s
  self : ∀ (A : Around) (i : Nat) (s : Shared) (Q : Value → Shared → Prop) (E : Value → Shared → Prop), tn i s.heap → Q (.ref it) s → wpAny (model P w) A (pyIter (.ref it)) Q E s
abbrev TI := St → Hp → (It → Hp → Prop) → Prop
def PIE (X : Cx) (pins : List (Addr × Obj)) (σ : St) (tg : Expr) (R : It → Hp → Prop) (itv : Value) (s2 : Shared) : Prop :=
  ∃ (it : Addr) (fp : List Addr) (tn : Nat → Heap → Prop) (J : It) (H' : Hp), itv = .ref it ∧ Inv X pins σ H' s2 ∧ Turn X.prog X.w X.K tg J fp it tn ∧ tn 0 s2.heap ∧ (∀ b ∈ fp, FpOk X pins H' b) ∧ R J H'
def PI (X : Cx) (tg iter : Expr) (wi : TI) : Prop :=
  ∀ (pins : List (Addr × Obj)) (s : Shared) (σ : St) (H : Hp) (R : It → Hp → Prop), Inv X pins σ H s → wi σ H R →
    wpAny (model X.prog X.w) X.A (eval iter X.env) (fun v s1 => wpAny (model X.prog X.w) X.A (pyIter v) (PIE X pins σ tg R) X.xe s1) X.xe s
theorem go_of {M : Model} {A : Around} {E : Value → Shared → Prop} {s : Shared} {tg : Expr} {it : Addr} {u : Value} {o : Obj} {n : String} {vs : Array Value} {Q : Unit → Shared → Prop} (ho : s.heap.get? it = some o) (hc : o.cls = .type n) (hd : o.data = .fields vs)
    (hn : ["enumerate", "zip", "dict_itemiterator", "dict_reverseitemiterator", "odict_iterator", "itertools.zip_longest", "itertools.pairwise"].contains n = false) (hQ : Q () s) : wpAny M A (letOwnedTupleGo tg (.ref it) u) Q E s := by
  unfold letOwnedTupleGo
  cases tg <;> first
    | exact wpAny_pure hQ
    | (cases u <;> first
        | exact wpAny_pure hQ
        | (refine wpAny_bind (wpAny_load ho ?_)
           rw [hc, hd]
           show wpAny M A (if (["enumerate", "zip", "dict_itemiterator", "dict_reverseitemiterator", "odict_iterator", "itertools.zip_longest", "itertools.pairwise"].contains n && vs[0]? == some (rawInt _)) = true then _ else _) Q E s
           rw [if_neg (by intro h; rw [hn, Bool.false_and] at h; cases h)]
           exact wpAny_pure hQ))
def Itl (K : PySem.W.Frag) (a : Addr) : It :=
  ⟨fun i H => ∃ xs x, SqL K H a xs ∧ xs[i]? = some x, fun i H x H' => H' = H ∧ ∀ xs, SqL K H a xs → xs[i]? = some x, fun i H => ∃ xs, SqL K H a xs ∧ xs.length ≤ i⟩
def Itr (lo : Int) (n : Nat) : It := ⟨fun i _ => i < n, fun i H x H' => H' = H ∧ x = .int (lo + i), fun i _ => n ≤ i⟩
theorem turn_list {P : Program} {w : World} {K : PySem.W.Frag} {tg : Expr} (a it : Addr) : Turn P w K tg (Itl K a) [it] it (fun i h => h.IsListIter it a i) where
  mem := by simp
  obj := fun i h st b hb => by
    have e : b = it := by simpa using hb
    subst e
    obtain ⟨o, e, c, d⟩ := st
    exact ⟨o, e, fun v z => by rw [d] at z; cases z⟩
  keep := fun i h h' st k => st.at fun o e => k it (by simp) o e
  item := by
    intro X hP hw hK hc i pins s σ H E I hf st hg
    subst hP hw hK
    obtain ⟨xs, x, hq, hx⟩ := hg
    obtain ⟨its, rv, p, hz⟩ := I.list hq
    obtain ⟨u, hu, ru⟩ := rv.get hx
    obtain ⟨f0, f1, f2, f3, f4, f5⟩ := hf it (by simp)
    refine wpAny_pyNext_list_item st p.isList (x := u) (by simpa using hu) fun h' st' sb => ?_
    have I1 : Inv X pins σ H { s with heap := h' } := I.turned (t' := s.toks) (fun b o hb e => (sb.2 b hb).trans e) f0 f1 f3 f4 f5
    obtain ⟨o, e, c, d⟩ := id st'
    exact ⟨u, rfl, go_of (s := { s with heap := h' }) e c d (by decide) ⟨x, H, I1, ru, ⟨rfl, fun ys hy => by rw [I.list_inj hy hq]; exact hx⟩, st', fun b hb => (hf b hb).1⟩⟩
  done := by
    intro X hP hw hK hc i pins s σ H E I hf st hg
    subst hP hw hK
    obtain ⟨xs, hq, hx⟩ := hg
    obtain ⟨its, rv, p, hz⟩ := I.list hq
    obtain ⟨f0, f1, f2, f3, f4, f5⟩ := hf it (by simp)
    have hl := rv.length
    exact wpAny_pyNext_list_end (I.ok.hd hc) st p.isList (by simp; omega) fun h' eb => ⟨rfl, I.turned (t' := s.toks) (fun b o hb e => eb b o hb e) f0 f1 f3 f4 f5⟩
  self := fun _ _ _ _ _ st h => wpAny_pyIter_listiter st h
theorem turn_range {P : Program} {w : World} {K : PySem.W.Frag} {tg : Expr} (it : Addr) (lo : Int) (n : Nat) : Turn P w K tg (Itr lo n) [it] it (fun i h => IsRangeIter h it (lo + (i : Nat) * 1) ((n : Int) - (i : Nat)) 1) where
  mem := by simp
  obj := fun i h st b hb => by
    have e : b = it := by simpa using hb
    subst e
    exact ⟨_, st, fun v z => by
      have z' : Data.fields _ = Data.cell v := z
      cases z'⟩
  keep := fun i h h' st k => k it (by simp) _ st
  item := by
    intro X hP hw hK hc i pins s σ H E I hf st hg
    subst hP hw hK
    obtain ⟨f0, f1, f2, f3, f4, f5⟩ := hf it (by simp)
    have W := Walks.range (prog := X.prog) (w := X.w) (I.ok.hd hc) it lo 1 n
    refine W.item i s _ _ hg st fun v h' tk hv st' kk => ?_
    obtain ⟨t, rfl⟩ := hv
    have I1 : Inv X pins σ H { s with heap := h', toks := tk } := I.turned (fun b o hb e => kk b o (by simpa using hb) e) f0 f1 f3 f4 f5
    refine ⟨_, rfl, go_of (s := { s with heap := h', toks := tk }) (n := "range_iterator") st' rfl rfl (by decide) ⟨.int (lo + i), H, I1, ⟨t, ?_⟩, ⟨rfl, rfl⟩, st', fun b hb => (hf b hb).1⟩⟩
    rw [Int.mul_one]
  done := by
    intro X hP hw hK hc i pins s σ H E I hf st hg
    subst hP hw hK
    obtain ⟨f0, f1, f2, f3, f4, f5⟩ := hf it (by simp)
    exact wpAny_pyNext_range_end (I.ok.hd hc) st (by have : n ≤ i := hg; omega) fun h' eb => ⟨rfl, I.turned (t' := s.toks) (fun b o hb e => eb b o hb e) f0 f1 f3 f4 f5⟩
  self := fun _ _ _ _ _ st h => wpAny_pyIter_rangeiter st h
end L2
namespace L2
open PySem PySem.Spec PyProof.Rows
section
variable {X : Cx} {tg : Expr}
def iList (K : PySem.W.Frag) (tl : TE) : TI := fun σ H R => tl σ H fun x H1 => ∃ a, x = .ref a ∧ (∃ xs, SqL K H1 a xs) ∧ R (Itl K a) H1
theorem pi_list {l : Expr} {tl : TE} (hl : PE X l tl) : PI X tg l (iList X.K tl) := by
  intro pins s σ H R I h
  refine thn (hl pins s σ H _ I h) fun v s1 ⟨x, H1, I1, r1, q1⟩ => ?_
  obtain ⟨a, e, ⟨xs, hq⟩, q⟩ := q1
  subst e
  cases r1
  obtain ⟨its, rv, p, hz⟩ := I1.list hq
  refine wpAny_pyIter_list p.isList ?_
  refine ⟨s1.heap.objs.size, [s1.heap.objs.size], _, _, H1, rfl, I1.kept (t' := s1.toks) fun b o e => Heap.get?_push_of_some _ e, turn_list a _, ⟨_, Heap.get?_push_size _ rfl, rfl, rfl⟩, fun b hb => ?_, q⟩
  have e : b = s1.heap.objs.size := by simpa using hb
  subst e
  exact I1.fpOk (Nat.le_refl _) (I1.hok.fresh (Nat.le_refl _))
theorem range_it {pins : List (Addr × Obj)} {σ : St} {H : Hp} {s : Shared} {R : It → Hp → Prop} {E : Value → Shared → Prop} {lo hi : Int} {t u v : Tok} {tk : Nat} (I : Inv X pins σ H s) (h1 : -(2 ^ 62) ≤ lo) (h2 : lo < 2 ^ 62) (h3 : -(2 ^ 62) ≤ hi) (h4 : hi < 2 ^ 62)
    (q : R (Itr lo (hi - lo).toNat) H) : wpAny (model X.prog X.w) X.A (pyIter (.ref s.heap.objs.size)) (PIE X pins σ tg R) E { s with heap := s.heap.push { cls := .type "range", data := .fields #[.int lo t, .int hi u, .int 1 v] }, toks := tk } := by
  refine wpAny_pyIter_range (IsRange.new ..) (small_one h1 h2 h3 h4) ?_
  have I1 : Inv X pins σ H { s with heap := s.heap.push { cls := .type "range", data := .fields #[.int lo t, .int hi u, .int 1 v] }, toks := tk } := I.kept fun b o e => Heap.get?_push_of_some _ e
  refine ⟨(s.heap.push { cls := .type "range", data := .fields #[.int lo t, .int hi u, .int 1 v] }).objs.size, [(s.heap.push { cls := .type "range", data := .fields #[.int lo t, .int hi u, .int 1 v] }).objs.size], _, _, H, rfl,
    I1.kept (t' := tk) fun b o e => Heap.get?_push_of_some _ e, turn_range _ lo (hi - lo).toNat, ?_, fun b hb => ?_, q⟩
  · have e1 : lo + ((0 : Nat) : Int) * 1 = lo := by simp
    have e2 : (((hi - lo).toNat : Nat) : Int) - ((0 : Nat) : Int) = Builtin.Range.rangeSize lo hi 1 := by rw [rangeSize_one]; split <;> omega
    show IsRangeIter _ _ (lo + ((0 : Nat) : Int) * 1) ((((hi - lo).toNat : Nat) : Int) - ((0 : Nat) : Int)) 1
    rw [e1, e2]
    exact Heap.get?_push_size _ rfl
  · have e : b = (s.heap.push { cls := .type "range", data := .fields #[.int lo t, .int hi u, .int 1 v] }).objs.size := by simpa using hb
    subst e
    exact I1.fpOk (Nat.le_refl _) (I1.hok.fresh (Nat.le_refl _))
def iRng1 (ta : TA) : TI := fun σ H R => ta σ H fun vs H1 => ∃ j : Int, vs = [.int j] ∧ -(2 ^ 62) ≤ j ∧ j < 2 ^ 62 ∧ R (Itr 0 j.toNat) H1
def iRng2 (ta : TA) : TI := fun σ H R => ta σ H fun vs H1 => ∃ i j : Int, vs = [.int i, .int j] ∧ (-(2 ^ 62) ≤ i ∧ i < 2 ^ 62 ∧ -(2 ^ 62) ≤ j ∧ j < 2 ^ 62) ∧ R (Itr i (j - i).toNat) H1
theorem pi_range1 {a : Expr} {ta : TA} {p pos : Pos} (hg : Gl X "range") (hm : X.mg "range" = none) (ha : PA X [a] ta) (hs : starEach [a] X.env = [(false, eval a X.env)] := by rfl) : PI X tg (.Call (.Name "range" p) [a] [] pos) (iRng1 ta) := by
  intro pins s σ H R I h
  refine Call_ (ld_blt I hg hm boot_range (PyProof.Rows.callWith_type1 (thn (ha pos pins s σ H _ I h) fun us s1 ⟨vs, H1, I1, r1, q1⟩ => ?_) hs rfl))
  obtain ⟨j, e, q1, q2, q⟩ := q1
  subst e
  cases r1 with
  | cons r rr =>
    cases rr
    obtain ⟨t, rfl⟩ := r
    exact call_range_1 (range_it I1 (by omega) (by omega) q1 q2 (by simpa using q))
theorem pi_range2 {a b : Expr} {ta : TA} {p pos : Pos} (hg : Gl X "range") (hm : X.mg "range" = none) (ha : PA X [a, b] ta) (hs : starEach [a, b] X.env = [(false, eval a X.env), (false, eval b X.env)] := by rfl) (hs2 : starEach [b] X.env = [(false, eval b X.env)] := by rfl) :
    PI X tg (.Call (.Name "range" p) [a, b] [] pos) (iRng2 ta) := by
  intro pins s σ H R I h
  refine Call_ (ld_blt I hg hm boot_range (PyProof.Rows.callWith_type1 (thn (ha pos pins s σ H _ I h) fun us s1 ⟨vs, H1, I1, r1, q1⟩ => ?_) (by rw [hs, hs2]) (by rw [hs2]; rfl)))
  obtain ⟨i, j, e, ⟨q1, q2, q3, q4⟩, q⟩ := q1
  subst e
  cases r1 with
  | cons r rr =>
    cases rr with
    | cons r' rr =>
      cases rr
      obtain ⟨t, rfl⟩ := r
      obtain ⟨t', rfl⟩ := r'
      exact call_range_2 (range_it I1 q1 q2 q3 q4 q)
def tFor (wi : TI) (g : TG) (tb : TS) : TS := fun D σ H => wi σ H fun J H1 => ∃ W : Nat → Nat → St → Hp → Prop, (∃ m, W 0 m σ H1) ∧ ∀ i m σ H, W i m σ H →
  (J.stop i H ∧ D.nx σ H) ∨ (J.go i H ∧ ∃ N : St → Hp → Prop, (∀ σ' H', N σ' H' → ∃ m', m' < m ∧ W (i + 1) m' σ' H') ∧ ∀ x H', J.yld i H x H' → g x σ H' fun σ2 H2 => tb { D with nx := N, ct := N, bk := D.nx } σ2 H2)
def pinsAt (fp : List Addr) (h : Heap) : List (Addr × Obj) := fp.filterMap fun b => (h.get? b).map fun o => (b, o)
theorem mem_pinsAt {fp : List Addr} {h : Heap} {b : Addr} {o : Obj} (hb : b ∈ fp) (e : h.get? b = some o) : (b, o) ∈ pinsAt fp h := List.mem_filterMap.mpr ⟨b, hb, by rw [e]; rfl⟩
theorem of_pinsAt {fp : List Addr} {h : Heap} {p : Addr × Obj} (hp : p ∈ pinsAt fp h) : p.1 ∈ fp ∧ h.get? p.1 = some p.2 := by
  obtain ⟨b, hb, e⟩ := List.mem_filterMap.mp hp
  cases q : h.get? b with
  | none => rw [q] at e; cases e
  | some o =>
    rw [q] at e
    have e' : (b, o) = p := Option.some.inj e
    subst e'
    exact ⟨hb, q⟩
theorem Inv.pinned {pins : List (Addr × Obj)} {σ : St} {H : Hp} {s : Shared} {fp : List Addr} (I : Inv X pins σ H s) (hf : ∀ b ∈ fp, FpOk X pins H b) (ho : ∀ b ∈ fp, ∃ o, s.heap.get? b = some o ∧ ∀ v, o.data ≠ .cell v) : Inv X (pins ++ pinsAt fp s.heap) σ H s :=
  I.pins_of fun p hp => (List.mem_append.mp hp).elim (fun z => I.pin p (List.mem_append_right _ z)) fun z => by
    obtain ⟨hb, e⟩ := of_pinsAt z
    obtain ⟨f0, f1, f2, _⟩ := hf p.1 hb
    obtain ⟨o, e', d⟩ := ho p.1 hb
    rw [e] at e'; cases e'
    exact ⟨e, f0, f1, f2, d⟩
theorem Inv.unpinned {pins pl : List (Addr × Obj)} {σ : St} {H : Hp} {s : Shared} (I : Inv X (pins ++ pl) σ H s) : Inv X pins σ H s := I.pins_of fun p hp => I.pin p (List.mem_append_right _ (List.mem_append_left _ hp))
theorem ps_for {iter : Expr} {body : List Stmt} {wi : TI} {g : TG} {tb : TS} {pos : Pos} (hp : PassesOwn (model X.prog X.w) X.A X.env X.xe) (hc : X.calm = true) (hi : PI X tg iter wi) (hg : PG X tg g) (hb : PSs X body tb)
    (hs : ∀ x, foldedSetIterable iter X.env x = pure x := by intro _; rfl) : PS X (.For tg iter body [] pos) (tFor wi g tb) := by
  intro pins s σ H D I h
  refine wpAny_For (thn (hi pins s σ H _ I h) fun v s1 h1 => thn h1 fun itv s2 h2 => ?_) hs
  obtain ⟨it, fp, tn, J, H2, e, I2, T, st2, f2, W, ⟨m0, w0⟩, turn⟩ := h2
  subst e
  -- what stays true of the iterator's objects through the loop
  have stat : ∀ {H' : Hp}, (∀ b ∈ fp, H' b = none) → ∀ b ∈ fp, FpOk X pins H' b := fun hn b hb => ⟨hn b hb, (f2 b hb).2⟩
  refine codeAny_forLoop_any (fun n s' => ∃ i σ' H', Inv X pins σ' H' s' ∧ tn i s'.heap ∧ (∀ b ∈ fp, H' b = none) ∧ W i n σ' H') ?_ m0 ⟨0, σ, H2, I2, st2, fun b hb => (f2 b hb).1, w0⟩
  rintro n s3 ⟨i, σ3, H3, I3, st3, fr3, w3⟩
  rcases turn i n σ3 H3 w3 with ⟨stop, qn⟩ | ⟨go, N, hN, step⟩
  · refine wpAny_passesOwn hp (thn (T.done X rfl rfl rfl hc i pins s3 σ3 H3 X.xe I3 (stat fr3) st3 stop) fun r s4 ⟨hr, I4⟩ => ?_)
    subst hr
    exact wpAny_execs_nil ⟨σ3, H3, I4, qn⟩
  · refine wpAny_passesOwn hp (thn (T.item X rfl rfl rfl hc i pins s3 σ3 H3 X.xe I3 (stat fr3) st3 go) fun r s4 ⟨u, hr, h4⟩ => ?_)
    subst hr
    refine wpAny_passesOwn hp (thn h4 fun _ s5 ⟨x, H5, I5, r5, y5, st5, fr5⟩ => ?_)
    have I5' := I5.pinned (stat fr5) (T.obj _ _ st5)
    refine wpAny_passesOwn hp (thn (hg _ s5 σ3 H5 x u _ I5' r5 (step x H5 y5)) fun _ s6 ⟨σ6, H6, I6, q6⟩ => ?_)
    refine wpAny_passesOwn hp (thn (hb _ s6 σ6 H6 _ I6 q6) fun f s7 q7 => ?_)
    have again : ∀ {σ7 : St} {H7 : Hp}, Inv X (pins ++ pinsAt fp s5.heap) σ7 H7 s7 → N σ7 H7 → ∃ m, m < n ∧ ∃ i σ' H', Inv X pins σ' H' s7 ∧ tn i s7.heap ∧ (∀ b ∈ fp, H' b = none) ∧ W i m σ' H' := fun {σ7 H7} I7 n7 => by
      obtain ⟨m', hm, w7⟩ := hN σ7 H7 n7
      refine ⟨m', hm, i + 1, σ7, H7, I7.unpinned, T.keep _ _ _ st5 fun b hb o e => (I7.pin (b, o) (List.mem_append_right _ (List.mem_append_right _ (mem_pinsAt hb e)))).1, fun b hb => ?_, w7⟩
      obtain ⟨o, e, d⟩ := T.obj _ _ st5 b hb
      exact (I7.pin (b, o) (List.mem_append_right _ (List.mem_append_right _ (mem_pinsAt hb e)))).2.1
    cases f with
    | next => obtain ⟨σ7, H7, I7, n7⟩ := q7; exact again I7 n7
    | cont => obtain ⟨σ7, H7, I7, n7⟩ := q7; exact again I7 n7
    | brk => obtain ⟨σ7, H7, I7, q7⟩ := q7; exact ⟨σ7, H7, I7.unpinned, q7⟩
    | ret v => obtain ⟨x7, σ7, H7, I7, r7, q7⟩ := q7; exact ⟨x7, σ7, H7, I7.unpinned, r7, q7⟩
end
theorem for_list {K : PySem.W.Frag} {a : Addr} {xs : List V} {g : TG} {tb : TS} {D : Ends} {σ : St} {H : Hp} (Pv : Nat → St → Hp → Prop) (h0 : Pv 0 σ H) (hl : ∀ i σ H, i ≤ xs.length → Pv i σ H → SqL K H a xs)
    (hs : ∀ i x σ H, xs[i]? = some x → Pv i σ H → g x σ H fun σ2 H2 => tb { D with nx := Pv (i + 1), ct := Pv (i + 1), bk := D.nx } σ2 H2) (hd : ∀ σ H, Pv xs.length σ H → D.nx σ H) :
    ∃ W : Nat → Nat → St → Hp → Prop, (∃ m, W 0 m σ H) ∧ ∀ i m σ H, W i m σ H →
      ((Itl K a).stop i H ∧ D.nx σ H) ∨ ((Itl K a).go i H ∧ ∃ N : St → Hp → Prop, (∀ σ' H', N σ' H' → ∃ m', m' < m ∧ W (i + 1) m' σ' H') ∧ ∀ x H', (Itl K a).yld i H x H' → g x σ H' fun σ2 H2 => tb { D with nx := N, ct := N, bk := D.nx } σ2 H2) := by
  refine ⟨fun i m σ H => m = xs.length - i ∧ i ≤ xs.length ∧ Pv i σ H, ⟨xs.length, by simp, Nat.zero_le _, h0⟩, ?_⟩
  rintro i m σ H ⟨rfl, hi, p⟩
  have q := hl i σ H hi p
  by_cases hlt : i < xs.length
  · refine .inr ⟨⟨xs, xs[i], q, by simp [hlt]⟩, Pv (i + 1), fun σ' H' p' => ⟨xs.length - (i + 1), by omega, rfl, hlt, p'⟩, fun x H' y => ?_⟩
    obtain ⟨e, y⟩ := y
    subst e
    exact hs i x σ _ (y xs q) p
  · have e : i = xs.length := by omega
    subst e
    exact .inl ⟨⟨xs, q, Nat.le_refl _⟩, hd σ H p⟩
theorem for_range {lo : Int} {n : Nat} {g : TG} {tb : TS} {D : Ends} {σ : St} {H : Hp} (Pv : Nat → St → Hp → Prop) (h0 : Pv 0 σ H)
    (hs : ∀ i σ H, i < n → Pv i σ H → g (.int (lo + i)) σ H fun σ2 H2 => tb { D with nx := Pv (i + 1), ct := Pv (i + 1), bk := D.nx } σ2 H2) (hd : ∀ σ H, Pv n σ H → D.nx σ H) :
    ∃ W : Nat → Nat → St → Hp → Prop, (∃ m, W 0 m σ H) ∧ ∀ i m σ H, W i m σ H →
      ((Itr lo n).stop i H ∧ D.nx σ H) ∨ ((Itr lo n).go i H ∧ ∃ N : St → Hp → Prop, (∀ σ' H', N σ' H' → ∃ m', m' < m ∧ W (i + 1) m' σ' H') ∧ ∀ x H', (Itr lo n).yld i H x H' → g x σ H' fun σ2 H2 => tb { D with nx := N, ct := N, bk := D.nx } σ2 H2) := by
  refine ⟨fun i m σ H => m = n - i ∧ i ≤ n ∧ Pv i σ H, ⟨n, by simp, Nat.zero_le _, h0⟩, ?_⟩
  rintro i m σ H ⟨rfl, hi, p⟩
  by_cases hlt : i < n
  · refine .inr ⟨hlt, Pv (i + 1), fun σ' H' p' => ⟨n - (i + 1), by omega, rfl, hlt, p'⟩, fun x H' y => ?_⟩
    obtain ⟨e, y⟩ := y
    subst e y
    exact hs i σ _ hlt p
  · have e : i = n := by omega
    subst e
    exact .inl ⟨Nat.le_refl _, hd σ H p⟩
end L2
namespace L2
open PySem PySem.Spec PyProof.Rows
abbrev R2 := V → V → Hp → VK → Prop
def OpR (X : Cx) (f : Value → Value → Sem Value) (r : R2) : Prop :=
  ∀ (pins : List (Addr × Obj)) (s : Shared) (σ : St) (H : Hp) (x y : V) (v u : Value) (Q : VK), Inv X pins σ H s → RelV x v → RelV y u → r x y H Q →
    wpAny (model X.prog X.w) X.A (f v u) (EP X pins σ Q) X.xe s
def CallR (X : Cx) (f : Value) (r : List V → Hp → VK → Prop) : Prop :=
  ∀ (pins : List (Addr × Obj)) (s : Shared) (σ : St) (H : Hp) (xs : List V) (us : List Value) (Q : VK), Inv X pins σ H s → Vals xs us → r xs H Q →
    wpAny (model X.prog X.w) X.A (call f us) (EP X pins σ Q) X.xe s
def tOp (r : R2) (ta tb : TE) : TE := fun σ H Q => ta σ H fun x H1 => tb σ H1 fun y H2 => r x y H2 Q
def rI (C : Int → Int → Prop) (g : Int → Int → V) : R2 := fun x y H Q => ∃ i j, x = .int i ∧ y = .int j ∧ C i j ∧ Q (g i j) H
def rI0 (g : Int → Int → V) : R2 := fun x y H Q => ∃ i j, x = .int i ∧ y = .int j ∧ Q (g i j) H
section
variable {X : Cx} {a b c : Expr} {ta tb tc : TE} {pos : Pos}
theorem binT (ha : PE X a ta) (hb : PE X b tb) {pins : List (Addr × Obj)} {s : Shared} {σ : St} {H : Hp} {R : V → V → Hp → Prop} (I : Inv X pins σ H s)
    (h : ta σ H fun x H1 => tb σ H1 fun y H2 => R x y H2) {Q : Value → Shared → Prop} {f : Value → Value → Sem Value}
    (hf : ∀ v u s2 x y H2, Inv X pins σ H2 s2 → RelV x v → RelV y u → R x y H2 → wpAny (model X.prog X.w) X.A (f v u) Q X.xe s2) :
    wpAny (model X.prog X.w) X.A (eval a X.env) (fun v s₁ => wpAny (model X.prog X.w) X.A (eval b X.env) (fun u s₂ => wpAny (model X.prog X.w) X.A (f v u) Q X.xe s₂) X.xe s₁) X.xe s := by
  refine thn (ha pins s σ H _ I h) fun v s1 ⟨x, H1, I1, r1, q1⟩ => ?_
  refine thn (hb pins s1 σ H1 _ I1 q1) fun u s2 ⟨y, H2, I2, r2, q2⟩ => ?_
  exact hf v u s2 x y H2 I2 r1 r2 q2
theorem pe_op {op : Operator} {r : R2} (ho : OpR X (binaryOp op) r) (ha : PE X a ta) (hb : PE X b tb) : PE X (.BinOp a op b pos) (tOp r ta tb) := by
  intro pins s σ H Q I h
  exact wpAny_BinOp (binT ha hb I h fun v u s2 x y H2 I2 rx ry q => ho pins s2 σ H2 x y v u Q I2 rx ry q)
theorem opI {f : Value → Value → Sem Value} {C : Int → Int → Prop} {g : Int → Int → Int}
    (rule : ∀ (i j : Int) (t u : Tok) (s : Shared) (Q : Value → Shared → Prop) (E : Value → Shared → Prop), C i j → Q (.int (g i j) s.toks) { s with toks := s.toks + 1 } → wpAny (model X.prog X.w) X.A (f (.int i t) (.int j u)) Q E s) :
    OpR X f (rI C fun i j => .int (g i j)) := by
  intro pins s σ H x y v u Q I rx ry h
  obtain ⟨i, j, rfl, rfl, hc, q⟩ := h
  obtain ⟨t, rfl⟩ := rx
  obtain ⟨t', rfl⟩ := ry
  exact rule i j t t' s _ _ hc ⟨.int (g i j), H, I.tok _, ⟨_, rfl⟩, q⟩
theorem opI0 {f : Value → Value → Sem Value} {g : Int → Int → Int}
    (rule : ∀ (i j : Int) (t u : Tok) (s : Shared) (Q : Value → Shared → Prop) (E : Value → Shared → Prop), Q (.int (g i j) s.toks) { s with toks := s.toks + 1 } → wpAny (model X.prog X.w) X.A (f (.int i t) (.int j u)) Q E s) :
    OpR X f (rI0 fun i j => .int (g i j)) := by
  intro pins s σ H x y v u Q I rx ry h
  obtain ⟨i, j, rfl, rfl, q⟩ := h
  obtain ⟨t, rfl⟩ := rx
  obtain ⟨t', rfl⟩ := ry
  exact rule i j t t' s _ _ ⟨.int (g i j), H, I.tok _, ⟨_, rfl⟩, q⟩
theorem opB0 {f : Value → Value → Sem Value} {g : Int → Int → Bool}
    (rule : ∀ (i j : Int) (t u : Tok) (s : Shared) (Q : Value → Shared → Prop) (E : Value → Shared → Prop), Q (.bool (g i j)) s → wpAny (model X.prog X.w) X.A (f (.int i t) (.int j u)) Q E s) :
    OpR X f (rI0 fun i j => .bl (g i j)) := by
  intro pins s σ H x y v u Q I rx ry h
  obtain ⟨i, j, rfl, rfl, q⟩ := h
  obtain ⟨t, rfl⟩ := rx
  obtain ⟨t', rfl⟩ := ry
  exact rule i j t t' s _ _ ⟨.bl (g i j), H, I, rfl, q⟩
def CMul (i j : Int) : Prop := (-(2 ^ 64) < i ∧ i < 2 ^ 64) ∨ (-(2 ^ 64) < j ∧ j < 2 ^ 64)
theorem CMul.ok {i j : Int} (h : CMul i j) : IntMulOk i j := by
  rcases h with ⟨h1, h2⟩ | ⟨h1, h2⟩
  · exact .of_left (intBits_le_64 h1 h2)
  · exact .of_right (intBits_le_64 h1 h2)
theorem op_add : OpR X (binaryOp .Add) (rI0 fun i j => .int (i + j)) := opI0 fun _ _ _ _ _ _ _ q => add_int q
theorem op_sub : OpR X (binaryOp .Sub) (rI0 fun i j => .int (i - j)) := opI0 fun _ _ _ _ _ _ _ q => sub_int q
theorem op_mul : OpR X (binaryOp .Mult) (rI CMul fun i j => .int (i * j)) := opI fun _ _ _ _ _ _ _ hc q => mul_int q hc.ok
end
def scal : V → V → Bool
  | .non, .non => true | .non, .int _ => true | .int _, .non => true | .non, .bl _ => true | .bl _, .non => true | .non, .str _ => true | .str _, .non => true
  | .int _, .int _ => true | .bl _, .bl _ => true | .str _, .str _ => true | .byt _, .byt _ => true
  | .int _, .str _ => true | .str _, .int _ => true | .bl _, .str _ => true | .str _, .bl _ => true
  | _, _ => false
def rEq : R2 := fun x y H Q => scal x y = true ∧ Q (.bl (decide (x = y))) H
def rNe : R2 := fun x y H Q => scal x y = true ∧ Q (.bl (!decide (x = y))) H
theorem dec_int {i j : Int} : decide (V.int i = V.int j) = (i == j) := by
  rw [Bool.eq_iff_iff]
  simp
theorem dec_bl {i j : Bool} : decide (V.bl i = V.bl j) = (i == j) := by
  rw [Bool.eq_iff_iff]
  simp
theorem dec_str {i j : Str} : decide (V.str i = V.str j) = (i == j) := by
  rw [Bool.eq_iff_iff]
  simp
theorem dec_byt {i j : Array UInt8} : decide (V.byt i = V.byt j) = (i.toList == j.toList) := by
  rw [Bool.eq_iff_iff]
  cases i
  cases j
  simp
section
variable {X : Cx} {a b c : Expr} {ta tb tc : TE} {pos : Pos}
theorem fin_bl {pins : List (Addr × Obj)} {σ : St} {H : Hp} {s : Shared} {Q : VK} {k k' : Bool} (I : Inv X pins σ H s) (q : Q (.bl k) H) (e : k = k') : EP X pins σ Q (.bool k') s := by
  subst e
  exact ⟨.bl k, H, I, rfl, q⟩
theorem op_eq : OpR X (compareOp .Eq) rEq := by
  intro pins s σ H x y v u Q I rx ry h
  obtain ⟨hs, q⟩ := h
  cases x with
  | non =>
    cases rx
    cases y with
    | non => cases ry; exact PySem.EqNone.eq_none_none (fin_bl I q (by simp))
    | bl j => cases ry; exact PySem.EqNone.eq_none_bool (fin_bl I q (by simp))
    | int j => obtain ⟨t', rfl⟩ := ry; exact PySem.EqNone.eq_none_int (fin_bl I q (by simp))
    | str j => obtain ⟨t', rfl⟩ := ry; exact PySem.EqNone.eq_none_str (fin_bl I q (by simp))
    | _ => exact absurd (show false = true from hs) Bool.false_ne_true
  | bl i =>
    cases rx
    cases y with
    | non => cases ry; exact PySem.EqNone.eq_bool_none (fin_bl I q (by simp))
    | bl j => cases ry; exact eq_bool (fin_bl I q dec_bl)
    | str j => obtain ⟨t', rfl⟩ := ry; exact PySem.EqMixed.eq_bool_str (fin_bl I q (by simp))
    | _ => exact absurd (show false = true from hs) Bool.false_ne_true
  | int i =>
    obtain ⟨t, rfl⟩ := rx
    cases y with
    | non => cases ry; exact PySem.EqNone.eq_int_none (fin_bl I q (by simp))
    | int j => obtain ⟨t', rfl⟩ := ry; exact eq_int (fin_bl I q dec_int)
    | str j => obtain ⟨t', rfl⟩ := ry; exact PySem.EqMixed.eq_int_str (fin_bl I q (by simp))
    | _ => exact absurd (show false = true from hs) Bool.false_ne_true
  | str i =>
    obtain ⟨t, rfl⟩ := rx
    cases y with
    | non => cases ry; exact PySem.EqNone.eq_str_none (fin_bl I q (by simp))
    | bl j => cases ry; exact PySem.EqMixed.eq_str_bool (fin_bl I q (by simp))
    | int j => obtain ⟨t', rfl⟩ := ry; exact PySem.EqMixed.eq_str_int (fin_bl I q (by simp))
    | str j => obtain ⟨t', rfl⟩ := ry; exact eq_str (fin_bl I q dec_str)
    | _ => exact absurd (show false = true from hs) Bool.false_ne_true
  | byt i =>
    obtain ⟨t, rfl⟩ := rx
    cases y with
    | byt j => obtain ⟨t', rfl⟩ := ry; exact PySem.W.eq_bytes (fin_bl I q dec_byt)
    | _ => exact absurd (show false = true from hs) Bool.false_ne_true
  | _ => cases y <;> exact absurd (show false = true from hs) Bool.false_ne_true
theorem op_ne : OpR X (compareOp .NotEq) rNe := by
  intro pins s σ H x y v u Q I rx ry h
  obtain ⟨hs, q⟩ := h
  cases x with
  | non =>
    cases rx
    cases y with
    | non => cases ry; exact PySem.EqNone.ne_none_none (fin_bl I q (by simp))
    | bl j => cases ry; exact PySem.EqNone.ne_none_bool (fin_bl I q (by simp))
    | int j => obtain ⟨t', rfl⟩ := ry; exact PySem.EqNone.ne_none_int (fin_bl I q (by simp))
    | str j => obtain ⟨t', rfl⟩ := ry; exact PySem.EqNone.ne_none_str (fin_bl I q (by simp))
    | _ => exact absurd (show false = true from hs) Bool.false_ne_true
  | bl i =>
    cases rx
    cases y with
    | non => cases ry; exact PySem.EqNone.ne_bool_none (fin_bl I q (by simp))
    | bl j => cases ry; exact ne_bool (fin_bl I q (congrArg not dec_bl))
    | str j => obtain ⟨t', rfl⟩ := ry; exact PySem.EqMixed.ne_bool_str (fin_bl I q (by simp))
    | _ => exact absurd (show false = true from hs) Bool.false_ne_true
  | int i =>
    obtain ⟨t, rfl⟩ := rx
    cases y with
    | non => cases ry; exact PySem.EqNone.ne_int_none (fin_bl I q (by simp))
    | int j => obtain ⟨t', rfl⟩ := ry; exact ne_int (fin_bl I q (congrArg not dec_int))
    | str j => obtain ⟨t', rfl⟩ := ry; exact PySem.EqMixed.ne_int_str (fin_bl I q (by simp))
    | _ => exact absurd (show false = true from hs) Bool.false_ne_true
  | str i =>
    obtain ⟨t, rfl⟩ := rx
    cases y with
    | non => cases ry; exact PySem.EqNone.ne_str_none (fin_bl I q (by simp))
    | bl j => cases ry; exact PySem.EqMixed.ne_str_bool (fin_bl I q (by simp))
    | int j => obtain ⟨t', rfl⟩ := ry; exact PySem.EqMixed.ne_str_int (fin_bl I q (by simp))
    | str j => obtain ⟨t', rfl⟩ := ry; exact ne_str (fin_bl I q (congrArg not dec_str))
    | _ => exact absurd (show false = true from hs) Bool.false_ne_true
  | byt i =>
    obtain ⟨t, rfl⟩ := rx
    cases y with
    | byt j => obtain ⟨t', rfl⟩ := ry; exact PySem.W.ne_bytes (fin_bl I q (congrArg not dec_byt))
    | _ => exact absurd (show false = true from hs) Bool.false_ne_true
  | _ => cases y <;> exact absurd (show false = true from hs) Bool.false_ne_true
theorem op_lt : OpR X (compareOp .Lt) (rI0 fun i j => .bl (decide (i < j))) := opB0 fun _ _ _ _ _ _ _ q => lt_int q
theorem op_le : OpR X (compareOp .LtE) (rI0 fun i j => .bl (decide (i ≤ j))) := opB0 fun _ _ _ _ _ _ _ q => le_int q
theorem op_gt : OpR X (compareOp .Gt) (rI0 fun i j => .bl (decide (j < i))) := opB0 fun _ _ _ _ _ _ _ q => gt_int q
theorem op_ge : OpR X (compareOp .GtE) (rI0 fun i j => .bl (decide (j ≤ i))) := opB0 fun _ _ _ _ _ _ _ q => ge_int q
theorem nomark (b : Expr) {op : CmpOp} (h : op ≠ .In := by decide) (h2 : op ≠ .NotIn := by decide) : behindInMarks op b = false := by
  have e1 : (op == CmpOp.In) = false := by cases op <;> first | rfl | exact absurd rfl h
  have e2 : (op == CmpOp.NotIn) = false := by cases op <;> first | rfl | exact absurd rfl h2
  cases b <;> simp [behindInMarks, e1, e2]
theorem pe_cmpR {op : CmpOp} {r : R2} (ho : OpR X (compareOp op) r) (ha : PE X a ta) (hb : PE X b tb) (hm : behindInMarks op b = false) : PE X (.Compare a [op] [b] pos) (tOp r ta tb) := by
  intro pins s σ H Q I h
  exact wpAny_Compare1 (binT ha hb I h fun v u s2 x y H2 I2 rx ry q => ho pins s2 σ H2 x y v u Q I2 rx ry q) hm
def tTest (t : TE) : TT := fun σ H Q => t σ H fun x H' => ∃ k, x = .bl k ∧ Q k H'
theorem pt_cmpR {op : CmpOp} {r : R2} (ho : OpR X (compareOp op) r) (ha : PE X a ta) (hb : PE X b tb) (hm : behindInMarks op b = false) : PT X (.Compare a [op] [b] pos) (tTest (tOp r ta tb)) := by
  intro pins s σ H Q I h
  refine wpAny_isTrue_Compare1 (thn (ha pins s σ H _ I h) fun v s1 ⟨x, H1, I1, r1, q1⟩ => thn (hb pins s1 σ H1 _ I1 q1) fun u s2 ⟨y, H2, I2, r2, q2⟩ =>
    thn (ho pins s2 σ H2 x y v u _ I2 r1 r2 q2) fun c s3 ⟨z, H3, I3, r3, k, e, q3⟩ => ?_) hm
  subst e
  cases r3
  exact wpAny_truthy_bool ⟨H3, I3, q3⟩
def tChain (r r' : R2) (ta tb tc : TE) : TE := fun σ H Q => ta σ H fun x H1 => tb σ H1 fun y H2 => r x y H2 fun z H3 => ∃ k, z = .bl k ∧
  (if k = true then tc σ H3 fun w' H4 => r' y w' H4 Q else Q (.bl false) H3)
theorem pt_chain {op op' : CmpOp} {r r' : R2} (ho : OpR X (compareOp op) r) (ho' : OpR X (compareOp op') r') (ha : PE X a ta) (hb : PE X b tb) (hc : PE X c tc)
    (hm : lastMarks [op, op'] [b, c] = false := by with_unfolding_all rfl) : PT X (.Compare a [op, op'] [b, c] pos) (tTest (tChain r r' ta tb tc)) := by
  intro pins s σ H Q I h
  refine isTrue_chain (thn (ha pins s σ H _ I h) fun v s1 ⟨x, H1, I1, r1, q1⟩ => test_link (thn (hb pins s1 σ H1 _ I1 q1) fun u s2 ⟨y, H2, I2, r2, q2⟩ =>
    thn (ho pins s2 σ H2 x y v u _ I2 r1 r2 q2) fun d s3 ⟨z, H3, I3, r3, k, e, q3⟩ => ?_)) hm
  subst e
  cases r3
  refine wpAny_truthy_bool ?_
  cases k with
  | false =>
    obtain ⟨k', e', q'⟩ := q3
    cases e'
    exact ite_ff ⟨H3, I3, q'⟩
  | true =>
    refine ite_tt (test_last (thn (hc pins s3 σ H3 _ I3 q3) fun w' s4 ⟨z', H4, I4, r4, q4⟩ => thn (ho' pins s4 σ H4 y z' u w' _ I4 r2 r4 q4) fun d' s5 ⟨z2, H5, I5, r5, k2, e2, q5⟩ => ?_))
    subst e2
    cases r5
    exact wpAny_truthy_bool ⟨H5, I5, q5⟩
theorem line63 : (sizeLine : Nat) < 2 ^ 63 := by rw [sizeLine_eq]; decide
theorem vals1 {x : V} {us : List Value} (r : Vals [x] us) : ∃ u, us = [u] ∧ RelV x u := by
  cases r with
  | cons r1 r2 => cases r2; exact ⟨_, rfl, r1⟩
theorem vals2 {x y : V} {us : List Value} (r : Vals [x, y] us) : ∃ u w', us = [u, w'] ∧ RelV x u ∧ RelV y w' := by
  cases r with
  | cons r1 r2 =>
    cases r2 with
    | cons r3 r4 => cases r4; exact ⟨_, _, rfl, r1, r3⟩
theorem call_max2 (hc : X.calm = true) : CallR X (.builtin "max") (fun xs H Q => ∃ i j, xs = [.int i, .int j] ∧ Q (.int (if j > i then j else i)) H) := by
  intro pins s σ H xs us Q I r h
  obtain ⟨i, j, rfl, q⟩ := h
  obtain ⟨u, w', rfl, ⟨t, rfl⟩, ⟨t', rfl⟩⟩ := vals2 r
  refine max_two_ints (I.ok.hd hc) fun h' tk k => ⟨_, H, I.kept k, ?_, q⟩
  by_cases hj : j > i
  · rw [if_pos hj, if_pos hj]; exact ⟨_, rfl⟩
  · rw [if_neg hj, if_neg hj]; exact ⟨_, rfl⟩
end
end L2
namespace L2
open PySem PySem.Spec PyProof.Rows
structure ObjM (h : Heap) (x dx C : Addr) (mA : Str → Option Value) : Prop where
  obj : h.get? x = some (PySem.W.instObj C dx)
  ns : h.Ns1 dx mA
  ne : dx ≠ x
theorem lookIn_ns {h : Heap} {dx : Addr} {mA : Str → Option Value} (n : h.Ns1 dx mA) : ∃ od, h.get? dx = some od ∧ ∀ name, PySem.W.lookIn name od = some (mA name) := by
  obtain ⟨o, es, ep, ho, hd, hk, _, hm⟩ := n
  refine ⟨o, ho, fun name => ?_⟩
  have e := hm name
  unfold nsFind findBy at e
  rw [← Array.find?_toList] at e
  unfold PySem.W.lookIn
  rw [hd]
  dsimp only
  split
  · rename_i y q
    rw [q] at e
    exact congrArg some e
  · rename_i q
    rw [q] at e
    have a : es.toList.any (·.refKey) = false := by
      rw [List.any_eq_false]
      intro y hy
      obtain ⟨z, t, hkey⟩ := hk y (Array.mem_toList_iff.mp hy)
      simp [DictEntry.refKey, hkey]
    have a' : ¬ es.toList.any (·.refKey) = true := by rw [a]; exact Bool.false_ne_true
    rw [if_neg a']
    exact congrArg some e
theorem ObjM.look {h : Heap} {x dx C : Addr} {mA : Str → Option Value} (I : ObjM h x dx C mA) : ∃ od, PySem.W.InstAt h x (PySem.W.instObj C dx) C (some od) ∧ ∀ name, PySem.W.lookIn name od = some (mA name) :=
  let ⟨od, ho, hl⟩ := lookIn_ns I.ns
  ⟨od, ⟨I.obj, rfl, rfl, ho⟩, hl⟩
section
variable {prog : Program} {w : World} {A : Around} {E : Value → Shared → Prop} {s : Shared} {K : PySem.W.Frag} {x dx C f : Addr} {mA : Str → Option Value} {name : Str} {v : Value}
theorem get_map {expr : Bool} {Q : Value → Shared → Prop} (X : K.In s.heap) (I : ObjM s.heap x dx C mA) (hg : PySem.W.plainGet K C name = true) (hh : PySem.W.hasDictIn K C = true)
    (ha : PySem.W.findIn K (.ref C) name = some none) (hv : mA name = some v) (hv' : PySem.W.handedIn v = true) (h : Q v { s with toks := s.toks + 1 }) :
    wpAny (model prog w) A (getAttr (.ref x) name expr) Q E s := by
  obtain ⟨od, J, hl⟩ := I.look
  exact PySem.W.get_value X J (PySem.W.plainGet_of hg).1 (PySem.W.findObj_own hh ha rfl (by rw [hl, hv])) hv' h
theorem get_meth {pl : Sem Bool} {Q : Value × List Value → Shared → Prop} (X : K.In s.heap) (I : ObjM s.heap x dx C mA) (hg : PySem.W.plainGet K C name = true)
    (hf : PySem.W.findIn K (.ref C) name = some (some (.ref f))) (ht : PySem.W.isFn K (.ref f) = true) (hv : mA name = none) (h : Q (.ref f, [.ref x]) s) :
    wpAny (model prog w) A (getMethod (.ref x) name pl) Q E s := by
  obtain ⟨od, J, hl⟩ := I.look
  exact PySem.W.method_fn X J (PySem.W.plainGet_of hg).1 (PySem.W.plainGet_of hg).2 hf (beq_iff_eq.mp ht) (by show (PySem.W.lookIn name od).map (·.isSome) = some false; rw [hl, hv]; rfl) h
theorem set_map {ns : List Str} {Q : Unit → Shared → Prop} (X : K.In s.heap) (I : ObjM s.heap x dx C mA)
    (hs : PySem.W.findIn K (.ref C) "__setattr__" = some (some (.builtin "object.__setattr__"))) (hp : PySem.W.plainOver K C = true) (ht : PySem.W.takerIn K C name = some none) (hh : PySem.W.hasDictIn K C = true)
    (hw : PySem.Within mA ns) (hsz : ns.length ≤ sizeLine)
    (h : ∀ h', ObjM h' x dx C (fun y => if y = name then some v else mA y) → Heap.SameBut dx s.heap h' → Q () { s with heap := h', toks := s.toks + 2 }) :
    wpAny (model prog w) A (setAttr (.ref x) name v) Q E s := by
  obtain ⟨od, J, hl⟩ := I.look
  refine PySem.W.set_plain X J hs (PySem.W.osa_open (s := { s with toks := s.toks + 1 }) (r := none) X J hp ht fun b => ?_)
  obtain ⟨cd, hc, hd'⟩ := PySem.W.any_some hh
  have hx : s.heap.get? x = some ⟨.ref C, some dx, .plain, #[]⟩ := I.obj
  refine wpAny_bind (wpAny_pure (wpAny_bind (wpAny_bind (wpAny_loadPart hx (wpAny_bind (PySem.W.Looks.here (s := { s with toks := s.toks + 1 }) (PySem.W.looks_clsIn X hc) ?_))))))
  rw [hd']
  refine wpAny_pure (a := some dx) (wpAny_bind (wpAny_pure (wpAny_bind ?_)))
  refine wpAny_nsSet1 (s := { s with toks := s.toks + 1 }) I.ns fun h' hn2 hs2 => ?_
  obtain ⟨oD, esD, epD, hoD, hdD, hcD⟩ := hn2.count (PySem.Within.cons name v hw)
  refine wpAny_bind (wpAny_lookBehind hoD (by rw [hdD]; exact pastItsLine_dict (Nat.le_trans hcD (by rw [List.length_cons]; omega))) ?_)
  exact wpAny_pure (h _ ⟨(hs2.2 _ (Ne.symm I.ne)).trans I.obj, hn2, I.ne⟩ hs2)
theorem make_map {R : Result → Shared → Prop} {vs : List Value} {kw : List (Str × Value)} (X : K.In s.heap) (hm : PySem.W.makesIn K C = true)
    (hi : PySem.W.findIn K (.ref C) "__init__" = some (some (.ref f))) (hf : PySem.W.typeIn K (.ref f) = some (.type "function"))
    (h : codeAny (model prog w) (A.under (.builtin "type.__call__" ⟨.ref C :: vs, kw⟩)) (.call (.ref f) ⟨.ref (s.heap.objs.size + 1) :: vs, kw⟩) (PySem.W.InitBack (s.heap.objs.size + 1) R)
      { s with heap := (s.heap.push PySem.W.emptyDict).push (PySem.W.instObj C s.heap.objs.size) }) :
    codeAny (model prog w) A (.call (.ref C) ⟨vs, kw⟩) R s := by
  obtain ⟨hh, g, d, t, os⟩ := s
  exact PySem.W.make_core (PySem.W.makes_of X hm) (PySem.W.looks_findIn X hi) (fun self => PySem.W.bind_fn X self hf) (.inl rfl) h
end
def putF (f : Str) (v : V) : List (Str × V) → List (Str × V)
  | [] => [(f, v)]
  | (g, x) :: r => if g = f then (g, v) :: r else (g, x) :: putF f v r
theorem lookup_putF (f g : Str) (v : V) : ∀ fs : List (Str × V), (putF f v fs).lookup g = if g = f then some v else fs.lookup g
  | [] => by
    show List.lookup g [(f, v)] = _
    by_cases h : g = f
    · have hb : (g == f) = true := beq_iff_eq.mpr h
      simp only [List.lookup, hb, if_pos h]
    · have hb : (g == f) = false := beq_eq_false_iff_ne.mpr h
      simp only [List.lookup, hb, if_neg h]
  | (k, x) :: r => by
    have ih := lookup_putF f g v r
    rw [show putF f v ((k, x) :: r) = (if k = f then (k, v) :: r else (k, x) :: putF f v r) from rfl]
    by_cases hk : k = f
    · rw [if_pos hk]
      by_cases h : g = k
      · have hb : (g == k) = true := beq_iff_eq.mpr h
        simp only [List.lookup, hb, if_pos (h.trans hk)]
      · have hb : (g == k) = false := beq_eq_false_iff_ne.mpr h
        simp only [List.lookup, hb, if_neg (fun e : g = f => h (e.trans hk.symm))]
    · rw [if_neg hk]
      by_cases h : g = k
      · have hb : (g == k) = true := beq_iff_eq.mpr h
        simp only [List.lookup, hb, if_neg (fun e : g = f => hk (h.symm.trans e))]
      · have hb : (g == k) = false := beq_eq_false_iff_ne.mpr h
        simp only [List.lookup, hb]
        exact ih
theorem keys_putF (f : Str) (v : V) : ∀ fs : List (Str × V), f ∈ (putF f v fs).map (·.1) ∧ ∀ g, g ∈ fs.map (·.1) → g ∈ (putF f v fs).map (·.1)
  | [] => ⟨by simp [putF], fun g h => by simp at h⟩
  | (k, x) :: r => by
    obtain ⟨i1, i2⟩ := keys_putF f v r
    rw [show putF f v ((k, x) :: r) = (if k = f then (k, v) :: r else (k, x) :: putF f v r) from rfl]
    by_cases hk : k = f
    · rw [if_pos hk]
      subst hk
      exact ⟨by simp, fun g h => by simpa using h⟩
    · rw [if_neg hk]
      refine ⟨?_, fun g h => ?_⟩
      · rw [List.map_cons]
        exact List.mem_cons_of_mem _ i1
      · rw [List.map_cons] at h ⊢
        rcases List.mem_cons.mp h with e | e
        · exact List.mem_cons.mpr (.inl e)
        · exact List.mem_cons_of_mem _ (i2 g e)
theorem length_putF (f : Str) (v : V) : ∀ fs : List (Str × V), (putF f v fs).length ≤ fs.length + 1
  | [] => by simp [putF]
  | (k, x) :: r => by
    have ih := length_putF f v r
    rw [show putF f v ((k, x) :: r) = (if k = f then (k, v) :: r else (k, x) :: putF f v r) from rfl]
    by_cases hk : k = f
    · rw [if_pos hk, List.length_cons, List.length_cons]; omega
    · rw [if_neg hk, List.length_cons, List.length_cons]; omega
theorem RelO.some_of {v : V} {o : Option Value} (r : RelO (some v) o) : ∃ u, o = some u ∧ RelV v u := by
  cases o with
  | none => exact (show False from r).elim
  | some u => exact ⟨u, rfl, r⟩
theorem RelO.none_of {o : Option Value} (r : RelO none o) : o = none := by
  cases o with
  | none => rfl
  | some u => exact (show False from r).elim
theorem handed_of {v : V} {u : Value} (r : RelV v u) : PySem.W.handedIn u = true := by
  cases v with
  | non => cases (show u = Value.none from r); rfl
  | bl b => cases (show u = Value.bool b from r); rfl
  | int i => obtain ⟨t, e⟩ := (show ∃ t, u = Value.int i t from r); cases e; rfl
  | str x => obtain ⟨t, e⟩ := (show ∃ t, u = Value.str x t from r); cases e; rfl
  | byt b => obtain ⟨t, e⟩ := (show ∃ t, u = Value.bytes b t from r); cases e; rfl
  | flt b => obtain ⟨t, e⟩ := (show ∃ t, u = Value.float b t from r); cases e; rfl
  | ref a => cases (show u = Value.ref a from r); rfl
  | ty n => cases (show u = Value.type n from r); rfl
section
variable {P : Program} {w : World} {H H' : Hp} {h h' : Heap} {a C dx : Addr} {fs fs' : List (Str × V)}
theorem ins_get (hok : HOk P w H h) (e : H a = some (.ins C dx fs)) : ∃ mA, ObjM h a dx C mA ∧ (∀ f, RelO (fs.lookup f) (mA f)) ∧ PySem.Within mA (fs.map (·.1)) ∧ fs.length ≤ 1000 ∧ H dx = some (.own a) := by
  obtain ⟨d, z, ne, ob, mA, n, r, q⟩ := (show ObjOk P w H h a (.ins C dx fs) from hok a _ e)
  exact ⟨mA, ⟨ob, n, ne⟩, r, q, z, d⟩
end
structure Cls (K : PySem.W.Frag) (C : Addr) : Prop where
  pg : PySem.W.plainGet K C Str.empty = true
  hd : PySem.W.hasDictIn K C = true
  po : PySem.W.plainOver K C = true
  sa : PySem.W.findIn K (.ref C) "__setattr__" = some (some (.builtin "object.__setattr__"))
theorem Cls.get {K : PySem.W.Frag} {C : Addr} (c : Cls K C) (f : Str) : PySem.W.plainGet K C f = true := c.pg
def NoAttr (K : PySem.W.Frag) (C : Addr) (f : Str) : Prop := PySem.W.findIn K (.ref C) f = some none
theorem NoAttr.taker {K : PySem.W.Frag} {C : Addr} {f : Str} (n : NoAttr K C f) : PySem.W.takerIn K C f = some none := by
  unfold PySem.W.takerIn
  rw [show PySem.W.findIn K (.ref C) f = some none from n]
  rfl
structure Meth (K : PySem.W.Frag) (C : Addr) (m : Str) (f : Addr) : Prop where
  at_ : PySem.W.findIn K (.ref C) m = some (some (.ref f))
  fn : PySem.W.isFn K (.ref f) = true
  kp : PySem.W.keepIn K (.ref f) = true
section
variable {X : Cx} {pins : List (Addr × Obj)} {σ : St} {H : Hp} {s : Shared} {a C dx : Addr} {fs : List (Str × V)} {f : Str} {v : V} {A : Around} {E : Value → Shared → Prop}
theorem getattr_ok {b : Bool} {Q : Value → Shared → Prop} (I : Inv X pins σ H s) (e : H a = some (.ins C dx fs)) (c : Cls X.K C) (n : NoAttr X.K C f) (l : fs.lookup f = some v)
    (h : ∀ u s', Inv X pins σ H s' → RelV v u → Q u s') : wpAny (model X.prog X.w) A (getAttr (.ref a) f b) Q E s := by
  obtain ⟨mA, O, r, _, _, _⟩ := ins_get I.hok e
  obtain ⟨u, hu, ru⟩ := RelO.some_of (v := v) (o := mA f) (by rw [← l]; exact r f)
  exact get_map I.kIn O (c.get f) c.hd n hu (handed_of ru) (h u _ (I.tok _) ru)
theorem getmeth_ok {m : Str} {g : Addr} {pl : Sem Bool} {Q : Value × List Value → Shared → Prop} (I : Inv X pins σ H s) (e : H a = some (.ins C dx fs)) (c : Cls X.K C) (k : Meth X.K C m g) (l : fs.lookup m = none)
    (h : Q (.ref g, [.ref a]) s) : wpAny (model X.prog X.w) A (getMethod (.ref a) m pl) Q E s := by
  obtain ⟨mA, O, r, _, _, _⟩ := ins_get I.hok e
  have hn : mA m = none := RelO.none_of (by rw [← l]; exact r m)
  exact get_meth I.kIn O (c.get m) k.at_ k.fn hn h
theorem setattr_ok {y : V} {u : Value} {Q : Unit → Shared → Prop} (I : Inv X pins σ H s) (e : H a = some (.ins C dx fs)) (c : Cls X.K C) (n : NoAttr X.K C f) (hl : fs.length < 1000) (ry : RelV y u)
    (h : ∀ s', Inv X pins σ (upd H a (.ins C dx (putF f y fs))) s' → Q () s') : wpAny (model X.prog X.w) A (setAttr (.ref a) f u) Q E s := by
  obtain ⟨mA, O, r, wi, _, ho⟩ := ins_get I.hok e
  have hz : (fs.map (·.1)).length ≤ sizeLine := by rw [List.length_map, sizeLine_eq]; omega
  refine set_map I.kIn O c.sa c.po n.taker c.hd wi hz fun h' O' sb => h _ ?_
  have hd : ∃ o, h'.get? dx = some o := let ⟨o, _, _, e', _⟩ := O'.ns; ⟨o, e'⟩
  refine I.write (x := a) (e := dx) (by rw [e]; exact True.intro) (.inr ho) (fun b q hb z => (sb.2 b hb).trans z) hd ?_
  refine ⟨by rw [upd_ne O.ne]; exact ho, ?_, O.ne, O'.obj, _, O'.ns, fun g => ?_, fun g hg => ?_⟩
  · have := length_putF f y fs; omega
  · show RelO ((putF f y fs).lookup g) (if g = f then some u else mA g)
    rw [lookup_putF]
    by_cases q : g = f
    · rw [if_pos q, if_pos q]; exact ry
    · rw [if_neg q, if_neg q]; exact r g
  · by_cases q : g = f
    · rw [q]; exact (keys_putF f y fs).1
    · refine (keys_putF f y fs).2 g (wi g fun z => hg ?_)
      show (if g = f then some u else mA g) = none
      rw [if_neg q]; exact z
theorem Inv.made (I : Inv X pins σ H s) : Inv X pins σ (upd (upd H s.heap.objs.size (.own (s.heap.objs.size + 1))) (s.heap.objs.size + 1) (.ins C s.heap.objs.size []))
    { s with heap := (s.heap.push PySem.W.emptyDict).push (PySem.W.instObj C s.heap.objs.size) } := by
  have e1 : (s.heap.push PySem.W.emptyDict).get? s.heap.objs.size = some PySem.W.emptyDict := Heap.get?_push_size s.heap rfl
  have e2 : ((s.heap.push PySem.W.emptyDict).push (PySem.W.instObj C s.heap.objs.size)).get? (s.heap.objs.size + 1) = some (PySem.W.instObj C s.heap.objs.size) := by
    have := Heap.get?_push_size (s.heap.push PySem.W.emptyDict) (o := PySem.W.instObj C s.heap.objs.size) rfl
    rwa [Heap.size_push] at this
  have e3 : (s.heap.push PySem.W.emptyDict).Ns s.heap.objs.size (fun _ => none) := ⟨PySem.W.emptyDict, #[], _, e1, rfl, (fun e he => absurd he (by simp)), fun _ => rfl⟩
  have I1 := I.laid (a := s.heap.objs.size) (o := .own (s.heap.objs.size + 1)) (h' := s.heap.push PySem.W.emptyDict) (t' := s.toks) (fun b u q => Heap.get?_push_of_some _ q) (Nat.le_refl _) ⟨_, e1⟩
  refine I1.laid (a := s.heap.objs.size + 1) (o := .ins C s.heap.objs.size []) (t' := s.toks) (fun b u q => Heap.get?_push_of_some _ q) (Nat.le_of_eq (Heap.size_push _ _)) ?_
  have ne : s.heap.objs.size ≠ s.heap.objs.size + 1 := Nat.ne_of_lt (Nat.lt_succ_self _)
  refine ⟨by rw [upd_ne ne, upd_same], Nat.zero_le _, ne, e2, fun _ => none, (Heap.Ns1.of_empty e3).at fun o q => Heap.get?_push_of_some _ q, fun _ => True.intro, fun y hy => absurd rfl hy⟩
theorem attr_of {prog : Program} {w : World} {env : Env} {e : Expr} {f : Str} {pos : Pos} {s : Shared} {Q : Value → Shared → Prop} (hb : attributeBase e f env (eval e env) = eval e env)
    (h : wpAny (model prog w) A (eval e env) (fun o s₁ => wpAny (model prog w) A (getAttr o f true) Q E s₁) E s) : wpAny (model prog w) A (eval (.Attribute e f pos) env) Q E s :=
  Attribute_any_ h (by rw [arm_eval_Attribute, hb])
end
def tFld (K : PySem.W.Frag) (ta : TE) (f : Str) : TE := fun σ H Q => ta σ H fun x H1 => ∃ a C dx fs v, x = .ref a ∧ H1 a = some (.ins C dx fs) ∧ Cls K C ∧ NoAttr K C f ∧ fs.lookup f = some v ∧ Q v H1
def sFld (K : PySem.W.Frag) (ta tv : TE) (f : Str) : TS := fun D σ H => tv σ H fun y H1 => ta σ H1 fun x H2 => ∃ a C dx fs, x = .ref a ∧ H2 a = some (.ins C dx fs) ∧ Cls K C ∧ NoAttr K C f ∧ fs.length < 1000 ∧
  D.nx σ (upd H2 a (.ins C dx (putF f y fs)))
def InOp (X : Cx) (op : Operator) (rd : V → V → Hp → VK → Prop) : Prop :=
  ∀ (pins : List (Addr × Obj)) (s : Shared) (σ : St) (H : Hp) (x y : V) (u v : Value) (Q : VK), Inv X pins σ H s → RelV x u → RelV y v → rd x y H Q → wpAny (model X.prog X.w) X.A (inplaceOp op u v) (EP X pins σ Q) X.xe s
def sFldAug (K : PySem.W.Frag) (ta tv : TE) (rd : V → V → Hp → VK → Prop) (f : Str) : TS := fun D σ H => ta σ H fun x H1 => ∃ a C dx fs v, x = .ref a ∧ H1 a = some (.ins C dx fs) ∧ Cls K C ∧ NoAttr K C f ∧ fs.lookup f = some v ∧
  tv σ H1 fun y H2 => rd v y H2 fun z H3 => ∃ dx' fs', H3 a = some (.ins C dx' fs') ∧ fs'.length < 1000 ∧ D.nx σ (upd H3 a (.ins C dx' (putF f z fs')))
section
variable {X : Cx} {o e value : Expr} {f : Str} {pos pos' tpos : Pos} {ta tv : TE}
theorem pe_fld (he : PE X e ta) (hb : attributeBase e f X.env (eval e X.env) = eval e X.env) : PE X (.Attribute e f pos) (tFld X.K ta f) := by
  intro pins s σ H Q I h
  refine attr_of hb (thn (he pins s σ H _ I h) fun u s1 ⟨x, H1, I1, rx, a, C, dx, fs, v, ex, ea, c, n, l, q⟩ => ?_)
  subst ex
  obtain rfl : u = Value.ref a := rx
  exact getattr_ok I1 ea c n l fun u' s2 I2 ru => ⟨v, H1, I2, ru, q⟩
theorem ps_fld (ha : PE X o ta) (hv : PE X value tv) (hs : swapsWith value (some (.Attribute o f pos')) pos.line X.env = pure false) : PS X (.Assign [.Attribute o f pos'] value pos) (sFld X.K ta tv f) := by
  intro pins s σ H D I h
  refine plainObj_wpAny_Assign_Attribute (thn (hv pins s σ H _ I h) fun u s1 ⟨y, H1, I1, ry, q⟩ => thn (ha pins s1 σ H1 _ I1 q) fun ov s2 ⟨x, H2, I2, rx, a, C, dx, fs, ex, ea, c, n, l, q2⟩ => ?_) hs
  subst ex
  obtain rfl : ov = Value.ref a := rx
  exact setattr_ok I2 ea c n l ry fun s3 I3 => ⟨σ, _, I3, q2⟩
theorem ps_fldaug {op : Operator} {rd : V → V → Hp → VK → Prop} (ha : PE X o ta) (hv : PE X value tv) (hop : InOp X op rd) : PS X (.AugAssign (.Attribute o f tpos) op value pos) (sFldAug X.K ta tv rd f) := by
  intro pins s σ H D I h
  refine wpAny_AugAssign_AttributeAny (thn (ha pins s σ H _ I h) fun ov s1 ⟨x, H1, I1, rx, a, C, dx, fs, v, ex, ea, c, n, l, q⟩ => ?_)
  subst ex
  obtain rfl : ov = Value.ref a := rx
  refine getattr_ok I1 ea c n l fun u s2 I2 ru => thn (hv pins s2 σ H1 _ I2 q) fun w3 s3 ⟨y, H2, I3, ry, q3⟩ => thn (hop pins s3 σ H2 v y u w3 _ I3 ru ry q3) fun w4 s4 ⟨z, H3, I4, rz, dx', fs', ea', l', q4⟩ => ?_
  exact setattr_ok I4 ea' c n l' rz fun s5 I5 => ⟨σ, _, I5, q4⟩
def rAdd : V → V → Hp → VK → Prop := fun x y H Q => ∃ i j, x = .int i ∧ y = .int j ∧ Q (.int (i + j)) H
theorem in_add : InOp X .Add rAdd := by
  rintro pins s σ H x y u v Q I rx ry ⟨i, j, rfl, rfl, q⟩
  obtain ⟨t, rfl⟩ := (show ∃ t, u = Value.int i t from rx)
  obtain ⟨t', rfl⟩ := (show ∃ t', v = Value.int j t' from ry)
  exact PyProof.Rows.iadd_int ⟨.int (i + j), H, I.tok _, ⟨_, rfl⟩, q⟩
theorem methcall_of {pl : Sem Bool} {m : Str} {apos : Pos} {args : List Expr} {pins : List (Addr × Obj)} {s : Shared} {σ : St} {H : Hp} {Q : Value → Shared → Prop} {te : TE} (he : PE X e te) (I : Inv X pins σ H s)
    (h : te σ H fun x H1 => ∃ a C dx fs g, x = .ref a ∧ H1 a = some (.ins C dx fs) ∧ Cls X.K C ∧ Meth X.K C m g ∧ fs.lookup m = none ∧
      ∀ s1, Inv X pins σ H1 s1 → wpAny (model X.prog X.w) X.A (callWith pos (.ref g) [.ref a] (backTo pos (starEach args X.env)) (backToKw pos (keywordEach [] X.env))) Q X.xe s1)
    (ht : eval (.Call (.Attribute e m apos) args [] pos) X.env = (do
      let ov ← eval e X.env
      standAt apos.atName
      let (f, first) ← holding [ov] (getMethod ov m pl)
      callWith pos f first (backTo pos (starEach args X.env)) (backToKw pos (keywordEach [] X.env)))) :
    wpAny (model X.prog X.w) X.A (eval (.Call (.Attribute e m apos) args [] pos) X.env) Q X.xe s := by
  refine PySem.W.methodCall_KW (pl := pl) (thn (he pins s σ H _ I h) fun u s1 ⟨x, H1, I1, rx, a, C, dx, fs, g, ex, ea, c, k, l, q⟩ => ?_) ht
  subst ex
  obtain rfl : u = Value.ref a := rx
  exact getmeth_ok I1 ea c k l (q s1 I1)
end
section
variable {X : Cx} {pins : List (Addr × Obj)} {σ : St} {H : Hp} {s : Shared} {A : Around} {E : Value → Shared → Prop} {Q : Value → Shared → Prop} {c : Value} {b : Bool}
end
end L2
namespace L2
open PySem PySem.Spec PyProof.Rows
structure Room (k : Nat) (A : Around) : Prop where
  hd : A.handled = none
  dp : A.depth + 3 * k + 5 < recursionLimit
  un : A.units + 16 * k + 200 < cLine
theorem Room.mono {j k : Nat} {A : Around} (r : Room k A) (h : j ≤ k) : Room j A := ⟨r.hd, by have := r.dp; omega, by have := r.un; omega⟩
theorem Room.deeper {k : Nat} {A : Around} (r : Room (k + 1) A) (env : Env) : Room k (A.deeper env) :=
  ⟨r.hd, by have := r.dp; show A.depth + 1 + 3 * k + 5 < _; omega, by have := r.un; show A.units + 3 + 16 * k + 200 < _; omega⟩
theorem make_depth {A : Around} {C : Addr} {us : List Value} {kw : List (Str × Value)} : (A.under (.builtin "type.__call__" ⟨.ref C :: us, kw⟩)).depth = A.depth + 1 := by
  first | rfl | simp [Around.under, Code.weight, Code.isCreation, Code.isGuard, Code.isCaller, Code.frames, Code.isFrame, guardIds]
theorem make_units {A : Around} {C : Addr} {us : List Value} {kw : List (Str × Value)} : (A.under (.builtin "type.__call__" ⟨.ref C :: us, kw⟩)).units = A.units + 1 := by
  first | rfl | simp [Around.under, Code.cUnits, Code.frames, Code.isFrame]
theorem Room.make {k : Nat} {A : Around} (r : Room (k + 1) A) (C : Addr) (us : List Value) (kw : List (Str × Value)) : Room k (A.under (.builtin "type.__call__" ⟨.ref C :: us, kw⟩)) :=
  ⟨r.hd, by have := r.dp; rw [make_depth]; omega, by have := r.un; rw [make_units]; omega⟩
theorem Room.depth {k : Nat} {A : Around} (r : Room k A) : A.depth < recursionLimit := by have := r.dp; omega
theorem Room.units {k : Nat} {A : Around} (r : Room k A) : A.units + 64 < cLine := by have := r.un; omega
def tNil : TA := fun _ H Q => Q [] H
def tCons (ta : TE) (tr : TA) : TA := fun σ H Q => ta σ H fun x H1 => tr σ H1 fun xs H2 => Q (x :: xs) H2
section
variable {X : Cx} {e : Expr} {es : List Expr} {te : TE} {t : TA} {pos : Pos}
theorem pa_nil : PA X [] tNil := fun _ _ _ _ H Q I h => Calls.spliced_nil ⟨[], H, I, .nil, h⟩
theorem pa_cons (ha : PE X e te) (hr : PA X es t) (hs : starEach (e :: es) X.env = (false, eval e X.env) :: starEach es X.env := by rfl) : PA X (e :: es) (tCons te t) := by
  intro pos pins s σ H Q I h
  rw [hs]
  show wpAny _ _ (spliced ((false, eval e X.env) :: backTo pos (starEach es X.env))) _ _ s
  refine Calls.spliced_cons (thn (ha pins s σ H _ I h) fun u s1 ⟨x, H1, I1, r1, q1⟩ => ?_)
  exact thn (hr pos pins s1 σ H1 _ I1 q1) fun us s2 ⟨xs, H2, I2, r2, q2⟩ => ⟨x :: xs, H2, I2, .cons r1 r2, q2⟩
def tTup (t : TA) : TE := fun σ H Q => t σ H fun xs H1 => xs.length ≤ sizeLine ∧ ∀ p, H1 p = none → Q (.ref p) (upd H1 p (.tup xs))
def tLst (t : TA) : TE := fun σ H Q => t σ H fun xs H1 => xs.length ≤ sizeLine ∧ ∀ p, H1 p = none → Q (.ref p) (upd H1 p (.lst xs))
theorem pe_tup {x1} (h : PA X es t) : PE X (.Tuple es x1 pos) (tTup t) := by
  intro pins s σ H Q I hq
  refine wpAny_Tuple_spliced (thn (h pos pins s σ H _ I hq) fun us s1 ⟨xs, H1, I1, r, z, q⟩ => ⟨by rw [← r.length]; exact z, ?_⟩)
  have hf : H1 s1.heap.objs.size = none := I1.hok.fresh (Nat.le_refl _)
  refine ⟨.ref s1.heap.objs.size, upd H1 s1.heap.objs.size (.tup xs), I1.laid (t' := s1.toks) (fun b u e => Heap.get?_push_of_some _ e) (Nat.le_refl _) ?_, rfl, q _ hf⟩
  exact ⟨z, us, r, ⟨_, Heap.get?_push_size _ rfl, rfl, _, rfl⟩⟩
theorem pe_lst (h : PA X es t) : PE X (.List es pos) (tLst t) := by
  intro pins s σ H Q I hq
  refine wpAny_List_spliced (thn (h pos pins s σ H _ I hq) fun us s1 ⟨xs, H1, I1, r, z, q⟩ => ⟨by rw [← r.length]; exact z, ?_⟩)
  have hf : H1 s1.heap.objs.size = none := I1.hok.fresh (Nat.le_refl _)
  refine ⟨.ref s1.heap.objs.size, upd H1 s1.heap.objs.size (.lst xs), I1.laid (t' := s1.toks) (fun b u e => Heap.get?_push_of_some _ e) (Nat.le_refl _) ?_, rfl, q _ hf⟩
  exact ⟨z, us, 0, r, Heap.get?_push_size _ rfl⟩
end
abbrev Sp := List V → Hp → VK → XK → Prop
abbrev CXT := List Env → Hp → Shared → XK → Value → Shared → Prop
structure Env0 (P : Program) (w : World) (K : PySem.W.Frag) (mg : Str → Option Value) (base : Heap) (A : Around) (outer : List Env) (s : Shared) (H : Hp) : Prop where
  frames : A.frames = some outer
  mod : Mod K mg base
  bs : ∀ b o, base.get? b = some o → s.heap.get? b = some o ∧ H b = none
  bsz : base.objs.size ≤ s.heap.objs.size
  funs : s.heap.FunFrames base outer
  frf : ∀ b ∈ frs outer, H b = none
  hok : HOk P w H s.heap
  bare : AllBare s.gens
def CE (outer : List Env) (P : Program) (w : World) (H : Hp) (s : Shared) (Q : VK) (u : Value) (s' : Shared) : Prop :=
  ∃ v H', s'.os = s.os ∧ AllBare s'.gens ∧ Un (frs outer) [] H H' s.heap s'.heap ∧ HOk P w H' s'.heap ∧ RelV v u ∧ Q v H'
def CR (CX : CXT) (outer : List Env) (P : Program) (w : World) (H : Hp) (s : Shared) (Q : VK) (E : XK) (r : Result) (s' : Shared) : Prop :=
  match r with
  | .ok (.ret u) => CE outer P w H s Q u s'
  | .ok _ => False
  | .error e => CX outer H s E e s'
structure FnOk (P : Program) (w : World) (K : PySem.W.Frag) (mg : Str → Option Value) (base : Heap) (CX : CXT) (k : Nat) (f : Addr) (fd : FuncData) (ps : List Str) (sp : Sp) : Prop where
  len : ∀ vs H Q E, sp vs H Q E → vs.length = ps.length
  run : ∀ (A : Around) (outer : List Env) (s : Shared) (H : Hp) (args : Args) (us : List Value) (vs : List V) (Q : VK) (E : XK), Room k A → Env0 P w K mg base A outer s H → BindsTo s fd args (ps.zip us) → Vals vs us → sp vs H Q E →
    codeAny (model P w) A (.call (.ref f) args) (CR CX outer P w H s Q E) s
theorem Env0.make {P : Program} {w : World} {K : PySem.W.Frag} {mg : Str → Option Value} {base : Heap} {A : Around} {outer : List Env} {s : Shared} {H : Hp} (e : Env0 P w K mg base A outer s H) (C : Addr) (us : List Value) (kw : List (Str × Value)) :
    Env0 P w K mg base (A.under (.builtin "type.__call__" ⟨.ref C :: us, kw⟩)) outer s H := ⟨by first | exact e.frames | (simpa [Around.under, Code.envs, Code.isFrame, pushEnvs] using e.frames), e.mod, e.bs, e.bsz, e.funs, e.frf, e.hok, e.bare⟩
section
variable {X : Cx} {pins : List (Addr × Obj)} {σ : St} {H : Hp} {s s' : Shared}
theorem Inv.env0 (I : Inv X pins σ H s) : Env0 X.prog X.w X.K X.mg X.base X.A X.stack s H :=
  ⟨I.ok.frames, I.ok.mod, I.bs, Nat.le_trans I.ok.bsz I.sz, I.stack, I.stkFree, I.hok, I.bare⟩
theorem Inv.after {Q : VK} {u : Value} (I : Inv X pins σ H s) (h : CE X.stack X.prog X.w H s Q u s') : EP X pins σ Q u s' := by
  obtain ⟨v, H', os, bare, un, hok, r, q⟩ := h
  obtain ⟨hh, g, d, t, os'⟩ := s'
  obtain rfl : os' = s.os := os
  exact ⟨v, H', I.call (h' := hh) (g' := g) (d' := d) (t' := t) (ch := []) un hok bare (fun b z => absurd z (by simp)), r, q⟩
end
def tCall (sp : Sp) (dvs : List V) (E : XK) (t : TA) : TE := fun σ H Q => t σ H fun vs H1 => sp (vs ++ dvs) H1 Q E
def tMeth (C : Addr) (m : Str) (sp : Sp) (dvs : List V) (E : XK) (ta : TE) (t : TA) : TE := fun σ H Q => ta σ H fun x H1 => ∃ a dx fs, x = .ref a ∧ H1 a = some (.ins C dx fs) ∧ fs.lookup m = none ∧
  t σ H1 fun vs H2 => sp (x :: (vs ++ dvs)) H2 Q E
def tMake (C : Addr) (sp : Sp) (dvs : List V) (E : XK) (t : TA) : TE := fun σ H Q => t σ H fun vs H1 => ∀ x dx, H1 x = none → H1 dx = none → dx ≠ x →
  sp (.ref x :: (vs ++ dvs)) (upd (upd H1 dx (.own x)) x (.ins C dx [])) (fun v H2 => v = .non ∧ Q (.ref x) H2) E
def Binds (K : PySem.W.Frag) (fd : FuncData) (ps : List Str) (ds : List Value) : Prop :=
  ∀ (s : Shared) (us : List Value), K.In s.heap → (us ++ ds).length = ps.length → BindsTo s fd ⟨us, []⟩ (ps.zip (us ++ ds))
theorem Binds.all {K : PySem.W.Frag} {fd : FuncData} {ps : List Str} (h : ∀ us : List Value, us.length = ps.length → bindArgs fd ⟨us, []⟩ = pure (ps.zip us)) : Binds K fd ps [] := fun s us _ hl => by
  rw [List.append_nil] at hl ⊢
  exact .of_eq (h us hl)
def Passes (CX : CXT) (X : Cx) (E : XK) : Prop := ∀ (pins : List (Addr × Obj)) (σ : St) (H : Hp) (s : Shared) (e : Value) (s' : Shared), Inv X pins σ H s → CX X.stack H s E e s' → X.xe e s'
section
variable {X : Cx} {CX : CXT} {k : Nat} {f C : Addr} {fd : FuncData} {ps : List Str} {sp : Sp} {dvs : List V} {ds : List Value} {E : XK} {x m : Str} {p pos apos : Pos} {e o : Expr} {es : List Expr} {ta : TE} {t : TA}
theorem run_fn {pins : List (Addr × Obj)} {σ : St} {H : Hp} {s : Shared} {Q : VK} {us : List Value} {vs : List V} (F : FnOk X.prog X.w X.K X.mg X.base CX k f fd ps sp) (hr : Room k X.A) (hb : Binds X.K fd ps ds) (hd : Vals dvs ds) (hx : Passes CX X E)
    (I : Inv X pins σ H s) (r : Vals vs us) (h : sp (vs ++ dvs) H Q E) : wpAny (model X.prog X.w) X.A (call (.ref f) us) (EP X pins σ Q) X.xe s := by
  have r2 : Vals (vs ++ dvs) (us ++ ds) := r.append hd
  have hl : (us ++ ds).length = ps.length := by rw [← r2.length]; exact F.len _ _ _ _ h
  refine wpAny_call (codeAny_mono (F.run X.A X.stack s H ⟨us, []⟩ (us ++ ds) (vs ++ dvs) Q E hr I.env0 (hb s us I.kIn hl) r2 h) fun r s' hq => ?_)
  cases r with
  | error e => exact hx pins σ H s e s' I hq
  | ok fl =>
    cases fl with
    | ret u => exact I.after hq
    | next => exact False.elim hq
    | brk => exact False.elim hq
    | cont => exact False.elim hq
theorem pe_call (F : FnOk X.prog X.w X.K X.mg X.base CX k f fd ps sp) (hr : Room k X.A) (hg : Gl X x) (hm : X.mg x = some (.ref f)) (hk : PySem.W.keepIn X.K (.ref f) = true) (hb : Binds X.K fd ps ds) (hd : Vals dvs ds) (hx : Passes CX X E)
    (ha : PA X (e :: es) t) (hdb : (x == ("__debug__" : Str)) = false := by decide) (he : starEach (e :: es) X.env = (false, eval e X.env) :: starEach es X.env := by rfl) (hpl : (backTo pos (starEach es X.env)).any (·.1) = false := by rfl) :
    PE X (.Call (.Name x p) (e :: es) [] pos) (tCall sp dvs E t) := by
  intro pins s σ H Q I h
  refine wpAny_Call_Name_kw (ld_glob I hg hm ?_ hdb)
  refine PySem.W.callWith_K (h₀ := X.base) I.ok.mod.kin hk (thn (ha pos pins s σ H _ I h) fun us s1 ⟨vs, H1, I1, r, q⟩ => ⟨I1.kIn, ?_⟩) he hpl
  exact run_fn F hr hb hd hx I1 r q
theorem pe_meth {pl : Sem Bool} (he : PE X o ta) (c : Cls X.K C) (hm : Meth X.K C m f) (F : FnOk X.prog X.w X.K X.mg X.base CX k f fd ps sp) (hr : Room k X.A) (hb : Binds X.K fd ps ds) (hd : Vals dvs ds) (hx : Passes CX X E) (ha : PA X (e :: es) t)
    (hst : starEach (e :: es) X.env = (false, eval e X.env) :: starEach es X.env := by rfl) (hpl : (backTo pos (starEach es X.env)).any (·.1) = false := by rfl)
    (ht : eval (.Call (.Attribute o m apos) (e :: es) [] pos) X.env = (do
      let ov ← eval o X.env
      standAt apos.atName
      let (f, first) ← holding [ov] (getMethod ov m pl)
      callWith pos f first (backTo pos (starEach (e :: es) X.env)) (backToKw pos (keywordEach [] X.env))) := by rfl) :
    PE X (.Call (.Attribute o m apos) (e :: es) [] pos) (tMeth C m sp dvs E ta t) := by
  intro pins s σ H Q I h
  refine PySem.W.methodCall_KW (pl := pl) (thn (he pins s σ H _ I h) fun u s1 ⟨x, H1, I1, rx, a, dx, fs, ex, ea, l, q⟩ => ?_) ht
  subst ex
  obtain rfl : u = Value.ref a := rx
  refine getmeth_ok I1 ea c hm l ?_
  refine PySem.W.callWith_K (first := [.ref a]) (h₀ := X.base) I.ok.mod.kin hm.kp (thn (ha pos pins s1 σ H1 _ I1 q) fun us s2 ⟨vs, H2, I2, r, q2⟩ => ⟨I2.kIn, ?_⟩) hst hpl
  exact run_fn (us := .ref a :: us) (vs := .ref a :: vs) F hr hb hd hx I2 (.cons rfl r) q2
theorem pe_meth0 {pl : Sem Bool} (he : PE X o ta) (c : Cls X.K C) (hm : Meth X.K C m f) (F : FnOk X.prog X.w X.K X.mg X.base CX k f fd ps sp) (hr : Room k X.A) (hb : Binds X.K fd ps ds) (hd : Vals dvs ds) (hx : Passes CX X E)
    (ht : eval (.Call (.Attribute o m apos) [] [] pos) X.env = (do
      let ov ← eval o X.env
      standAt apos.atName
      let (f, first) ← holding [ov] (getMethod ov m pl)
      callWith pos f first (backTo pos (starEach [] X.env)) (backToKw pos (keywordEach [] X.env))) := by rfl) :
    PE X (.Call (.Attribute o m apos) [] [] pos) (tMeth C m sp dvs E ta tNil) := by
  intro pins s σ H Q I h
  refine PySem.W.methodCall_KW (pl := pl) (thn (he pins s σ H _ I h) fun u s1 ⟨x, H1, I1, rx, a, dx, fs, ex, ea, l, q⟩ => ?_) ht
  subst ex
  obtain rfl : u = Value.ref a := rx
  refine getmeth_ok I1 ea c hm l ?_
  exact PySem.W.callWith_K0 (first := [.ref a]) I1.kIn hm.kp (run_fn (us := [.ref a]) (vs := [.ref a]) F hr hb hd hx I1 (.cons rfl .nil) q)
structure Mk (K : PySem.W.Frag) (C f : Addr) : Prop where
  makes : PySem.W.makesIn K C = true
  init : PySem.W.findIn K (.ref C) "__init__" = some (some (.ref f))
  fn : PySem.W.isFn K (.ref f) = true
  kp : PySem.W.keepIn K (.ref C) = true
theorem run_make {pins : List (Addr × Obj)} {σ : St} {H : Hp} {s : Shared} {Q : VK} {us : List Value} {vs : List V} (M : Mk X.K C f) (F : FnOk X.prog X.w X.K X.mg X.base CX k f fd ps sp) (hr : Room (k + 1) X.A) (hb : Binds X.K fd ps ds) (hd : Vals dvs ds)
    (hx : Passes CX X E) (I : Inv X pins σ H s) (r : Vals vs us)
    (h : ∀ x dx, H x = none → H dx = none → dx ≠ x → sp (.ref x :: (vs ++ dvs)) (upd (upd H dx (.own x)) x (.ins C dx [])) (fun v H2 => v = .non ∧ Q (.ref x) H2) E) :
    wpAny (model X.prog X.w) X.A (call (.ref C) us) (EP X pins σ Q) X.xe s := by
  have hq := h (s.heap.objs.size + 1) s.heap.objs.size (I.hok.fresh (Nat.le_succ _)) (I.hok.fresh (Nat.le_refl _)) (Nat.ne_of_lt (Nat.lt_succ_self _))
  have I2 := Inv.made (C := C) I
  have r2 : Vals (V.ref (s.heap.objs.size + 1) :: (vs ++ dvs)) (Value.ref (s.heap.objs.size + 1) :: (us ++ ds)) := .cons rfl (r.append hd)
  have hl : (Value.ref (s.heap.objs.size + 1) :: us ++ ds).length = ps.length := by
    have e := r2.length
    rw [F.len _ _ _ _ hq] at e
    exact e.symm
  refine wpAny_call (make_map (f := f) I.kIn M.makes M.init (beq_iff_eq.mp M.fn) (codeAny_mono (F.run _ X.stack _ _ ⟨Value.ref (s.heap.objs.size + 1) :: us, []⟩ (Value.ref (s.heap.objs.size + 1) :: (us ++ ds)) _ _ E (hr.make C us [])
    (I2.env0.make C us []) (hb _ (Value.ref (s.heap.objs.size + 1) :: us) I2.kIn hl) r2 hq) fun r s' hq' => ?_))
  cases r with
  | error e => exact hx pins σ _ _ e s' I2 hq'
  | ok fl =>
    cases fl with
    | ret u =>
      obtain ⟨v, H', I3, rv, ev, q3⟩ := I2.after hq'
      subst ev
      exact ⟨rv, ⟨V.ref (s.heap.objs.size + 1), H', I3, rfl, q3⟩⟩
    | next => exact False.elim hq'
    | brk => exact False.elim hq'
    | cont => exact False.elim hq'
theorem pe_make (M : Mk X.K C f) (F : FnOk X.prog X.w X.K X.mg X.base CX k f fd ps sp) (hr : Room (k + 1) X.A) (hg : Gl X x) (hm : X.mg x = some (.ref C)) (hb : Binds X.K fd ps ds) (hd : Vals dvs ds) (hx : Passes CX X E)
    (ha : PA X (e :: es) t) (hdb : (x == ("__debug__" : Str)) = false := by decide) (he : starEach (e :: es) X.env = (false, eval e X.env) :: starEach es X.env := by rfl) (hpl : (backTo pos (starEach es X.env)).any (·.1) = false := by rfl) :
    PE X (.Call (.Name x p) (e :: es) [] pos) (tMake C sp dvs E t) := by
  intro pins s σ H Q I h
  refine wpAny_Call_Name_kw (ld_glob I hg hm ?_ hdb)
  refine PySem.W.callWith_K (h₀ := X.base) I.ok.mod.kin M.kp (thn (ha pos pins s σ H _ I h) fun us s1 ⟨vs, H1, I1, r, q⟩ => ⟨I1.kIn, ?_⟩) he hpl
  exact run_make M F hr hb hd hx I1 r q
theorem pe_make0 (M : Mk X.K C f) (F : FnOk X.prog X.w X.K X.mg X.base CX k f fd ps sp) (hr : Room (k + 1) X.A) (hg : Gl X x) (hm : X.mg x = some (.ref C)) (hb : Binds X.K fd ps ds) (hd : Vals dvs ds) (hx : Passes CX X E)
    (hdb : (x == ("__debug__" : Str)) = false := by decide) : PE X (.Call (.Name x p) [] [] pos) (tMake C sp dvs E tNil) := by
  intro pins s σ H Q I h
  refine wpAny_Call_Name_kw (ld_glob I hg hm ?_ hdb)
  exact PySem.W.callWith_K0 I.kIn M.kp (run_make (us := []) M F hr hb hd hx I .nil h)
end
section
variable {X : Cx} {CX : CXT} {k : Nat} {f C : Addr} {fd : FuncData} {ps ks : List Str} {sp : Sp} {E : XK} {x m : Str} {p pos apos kpos : Pos} {e o : Expr} {es : List Expr} {kws : List Keyword} {te ta : TE} {t tk : TA} {nm : Option Str}
variable {g : List Value → List Value → List Value} {gV : List V → List V → List V}
end
structure FnScope (N P : List Str) (sc : Scope) : Prop where
  kind : sc.kind = .function
  co : sc.isCoroutine = false
  gen : sc.isGenerator = false
  nd : N.Nodup
  pre : N.take P.length = P
  par : ∀ x ∈ P, sc.names.lookup x = some .local ∨ sc.names.lookup x = some .cell
  nofree : ∀ y ∈ sc.names, y.2 ≠ .free
theorem bindL_out {kindOf : Str → Option NameKind} {x : Str} : ∀ {binds : List (Str × Value)} {m : Str → Option Value}, (∀ v, (x, v) ∉ binds) → bindL kindOf binds m x = m x
  | [], _, _ => rfl
  | (n, v) :: r, m, h => by
    unfold bindL
    rw [bindL_out fun w hw => h w (List.mem_cons_of_mem _ hw)]
    split
    · have : x ≠ n := by rintro rfl; exact h v List.mem_cons_self
      simp [this]
    · rfl
theorem bindC_out {kindOf : Str → Option NameKind} {x : Str} : ∀ {binds : List (Str × Value)} {m : Str → Option Value}, (∀ v, (x, v) ∉ binds) → bindC kindOf binds m x = m x
  | [], _, _ => rfl
  | (n, v) :: r, m, h => by
    unfold bindC
    rw [bindC_out fun w hw => h w (List.mem_cons_of_mem _ hw)]
    split
    · rfl
    · have : x ≠ n := by rintro rfl; exact h v List.mem_cons_self
      simp [this]
theorem bindL_get {kindOf : Str → Option NameKind} {x : Str} {v : Value} : ∀ {P : List Str} {vs : List Value} {i : Nat} {m : Str → Option Value}, P.Nodup → P[i]? = some x → vs[i]? = some v → kindOf x = some .local →
    bindL kindOf (P.zip vs) m x = some v
  | [], _, _, _, _, h, _, _ => by simp at h
  | _ :: _, [], _, _, _, _, h, _ => by simp at h
  | p :: P, w :: vs, 0, m, nd, h1, h2, hk => by
    simp at h1 h2; subst h1; subst h2
    show bindL kindOf ((p, w) :: P.zip vs) m p = _
    unfold bindL
    rw [bindL_out fun v hv => (List.nodup_cons.mp nd).1 (List.of_mem_zip hv).1, if_pos hk]
    simp
  | p :: P, w :: vs, i + 1, m, nd, h1, h2, hk => by
    show bindL kindOf ((p, w) :: P.zip vs) m x = _
    unfold bindL
    exact bindL_get (i := i) (List.nodup_cons.mp nd).2 (by simpa using h1) (by simpa using h2) hk
theorem bindC_get {kindOf : Str → Option NameKind} {x : Str} {v : Value} : ∀ {P : List Str} {vs : List Value} {i : Nat} {m : Str → Option Value}, P.Nodup → P[i]? = some x → vs[i]? = some v → kindOf x ≠ some .local →
    bindC kindOf (P.zip vs) m x = some v
  | [], _, _, _, _, h, _, _ => by simp at h
  | _ :: _, [], _, _, _, _, h, _ => by simp at h
  | p :: P, w :: vs, 0, m, nd, h1, h2, hk => by
    simp at h1 h2; subst h1; subst h2
    show bindC kindOf ((p, w) :: P.zip vs) m p = _
    unfold bindC
    rw [bindC_out fun v hv => (List.nodup_cons.mp nd).1 (List.of_mem_zip hv).1, if_neg hk]
    simp
  | p :: P, w :: vs, i + 1, m, nd, h1, h2, hk => by
    show bindC kindOf ((p, w) :: P.zip vs) m x = _
    unfold bindC
    exact bindC_get (i := i) (List.nodup_cons.mp nd).2 (by simpa using h1) (by simpa using h2) hk
def start (N : List Str) (vs : List V) : St := vs.map some ++ List.replicate (N.length - vs.length) none
def cxOf (CX : CXT) (P : Program) (w : World) (K : PySem.W.Frag) (mg : Str → Option Value) (base : Heap) (N : List Str) (qual : Str) (scope : Scope) (f : Addr) (cd : Value) (A : Around) (outer : List Env) (s : Shared) (H : Hp) (E : XK) : Cx where
  prog := P
  w := w
  K := K
  mg := mg
  base := base
  A := A.deeper (envOfC qual scope s.heap.objs.size f cd)
  N := N
  s_0 := s
  H_0 := H
  env := envOfC qual scope s.heap.objs.size f cd
  outer := outer
  stack := envOfC qual scope s.heap.objs.size f cd :: outer
  ex := []
  calm := true
  fn := fun _ => true
  pn := []
  xe := fun e s' => wpAny (model P w) (A.deeper (envOfC qual scope s.heap.objs.size f cd)) (leaving (envOfC qual scope s.heap.objs.size f cd) e) (fun _ s'' => CX outer H s E e s'') (fun e' s'' => CX outer H s E e' s'') s'
theorem cell_has {sc : Scope} {n : Nat} {x : Str} (h : sc.names.lookup x = some .cell) : ∃ c, (cellsFrom n sc.names []).lookup x = some c := by
  have q := PySem.W.cellsFrom_some sc.names n [] (.inl h)
  exact Option.isSome_iff_exists.mp q
theorem inv_start {CX : CXT} {P : Program} {w : World} {K : PySem.W.Frag} {mg : Str → Option Value} {base : Heap} {N ps : List Str} {qual : Str} {scope : Scope} {f : Addr} {cd : Value} {A : Around} {outer : List Env} {s s1 : Shared} {H : Hp} {E : XK} {us : List Value} {vs : List V}
    (S : FnScope N ps scope) (hd : A.handled = none) (e0 : Env0 P w K mg base A outer s H) (hl : vs.length = ps.length) (r : Vals vs us)
    (x : InCallC s s.heap.objs.size (bindL (envOfC qual scope s.heap.objs.size f cd).kindOf (ps.zip us) fun _ => none) (cellsFrom (s.heap.objs.size + 1) scope.names []) (bindC (envOfC qual scope s.heap.objs.size f cd).kindOf (ps.zip us) fun _ => none) s1) :
    Inv (cxOf CX P w K mg base N qual scope f cd A outer s H E) [] (start N vs) H s1 := by
  have hpl : ps.length ≤ N.length := by have := congrArg List.length S.pre; rw [List.length_take] at this; omega
  obtain ⟨h1, tk, rfl, hk⟩ := x.done
  have noA : ∀ b : Addr, b ∉ (cxOf CX P w K mg base N qual scope f cd A outer s H E).ex := fun b z => absurd (show b ∈ ([] : List Addr) from z) (by simp)
  refine ⟨⟨e0.mod, S.kind, rfl, rfl, Nat.le_refl _, fun y z c h1 h2 => ?_, fun y hy => ?_, fun y c _ h => ?_, fun _ => hd, Around.frames_deeper e0.frames, .inr ⟨rfl, rfl⟩, fun b z => absurd z (noA b), e0.bs, e0.bsz, fun b _ _ => noA b, fun b z => absurd z (noA b), e0.funs, e0.frf⟩,
    rfl, e0.bare, Un.kept hk, ⟨_, x.toInCall.ns, fun i y v h1 h2 h3 => ?_⟩, fun y c h => ⟨_, x.cell y c h⟩, e0.hok.fresh (Nat.le_refl _), fun y c h => ?_, fun p hp => absurd (show p ∈ ([] : List (Addr × Obj)) from hp) (by simp), e0.hok.kept hk, ?_⟩
  · exact name_of_addr x.apart (PySem.mem_of_lookup h1) (PySem.mem_of_lookup h2)
  · have hy : scope.names.lookup y = some .cell ∨ scope.names.lookup y = some .free := hy
    rcases hy with hy | hy
    · exact cell_has hy
    · exact absurd rfl (S.nofree _ (PySem.mem_of_lookup hy))
  · exact Nat.le_of_lt (x.above y c (PySem.mem_of_lookup h))
  · have hi : i < vs.length := by
      unfold start at h2
      by_cases hi : i < vs.length
      · exact hi
      · rw [List.getElem?_append_right (by simpa using hi)] at h2
        rw [List.getElem?_replicate] at h2
        split at h2 <;> cases h2
    have ha : vs[i]? = some v := by
      unfold start at h2
      rw [List.getElem?_append_left (by simpa using hi), List.getElem?_map] at h2
      cases e : vs[i]? with
      | none => rw [e] at h2; cases h2
      | some a => rw [e] at h2; cases h2; rfl
    obtain ⟨u, hu, rv⟩ := r.get ha
    have hp : ps[i]? = some y := by
      rw [← S.pre, List.getElem?_take_of_lt (by omega)]; exact h1
    have ndP : ps.Nodup := by rw [← S.pre]; exact S.nd.sublist (List.take_sublist _ _)
    refine ⟨u, rv, ?_⟩
    rcases S.par y (List.mem_of_getElem? hp) with k | k
    · exact .inl ⟨k, bindL_get ndP hp hu k⟩
    · obtain ⟨c, e⟩ := cell_has (n := s.heap.objs.size + 1) k
      refine .inr ⟨.inl k, c, e, ?_⟩
      have q := x.cell y c e
      rw [bindC_get ndP hp hu (by show scope.names.lookup y ≠ _; rw [k]; decide)] at q
      exact q
  · exact e0.hok.fresh (Nat.le_of_lt (x.above y c (PySem.mem_of_lookup h)))
  · unfold start
    show _ = N.length
    rw [List.length_append, List.length_map, List.length_replicate]
    omega
theorem fn_of {CX : CXT} {P : Program} {w : World} {K : PySem.W.Frag} {mg : Str → Option Value} {base : Heap} {k : Nat} {f : Addr} {name qual : Str} {params : Arguments} {body : List Stmt} {scope : Scope} {dV kV doc pm cdv ct oc : Value} {an od : Option Addr}
    {osl : Array (Option Value)} {N ps : List Str} {sp : Sp} (lk : K.lookup f = some ⟨oc, od, .func (PySem.W.fnOf name qual params body scope dV kV doc pm an cdv ct), osl⟩) (hcd : PySem.W.codeIn K cdv qual = true) (S : FnScope N ps scope)
    (len : ∀ vs H Q E, sp vs H Q E → vs.length = ps.length)
    (hbody : ∀ (A : Around) (outer : List Env) (s : Shared) (H : Hp) (vs : List V) (Q : VK) (E : XK), Room k (A.deeper (envOfC qual scope s.heap.objs.size f cdv)) → sp vs H Q E →
      ∃ t, PSs (cxOf CX P w K mg base N qual scope f cdv A outer s H E) body t ∧ t { nx := fun _ H' => Q .non H', rt := Q } (start N vs) H) :
    FnOk P w K mg base CX (k + 1) f (PySem.W.fnOf name qual params body scope dV kV doc pm an cdv ct) ps sp := by
  refine ⟨len, fun A outer s H args us vs Q E hr e0 hb r hsp => ?_⟩
  have hl := len _ _ _ _ hsp
  have KX : K.In s.heap := e0.mod.kin.keeps fun b o e => (e0.bs b o e).1
  have lim : s.heap.NoLimit := e0.mod.nolimit.keeps fun b o e => (e0.bs b o e).1
  have hkind : ∀ y ∈ ps.zip us, scope.names.lookup y.1 = some .local ∨ (scope.names.lookup y.1 = some .cell ∧ ((cellsFrom (s.heap.objs.size + 1) scope.names []).lookup y.1).isSome = true) := fun ⟨n, v⟩ hy => by
    rcases S.par n (List.of_mem_zip hy).1 with q | q
    · exact .inl q
    · exact .inr ⟨q, PySem.W.cellsFrom_some _ _ _ (.inl q)⟩
  refine codeAny_call_function hr.depth (KX _ _ lk) rfl S.co S.gen rfl (PySem.W.codeRec_of KX hcd) (hb _ _ _ _ ?_)
  refine wpAny_newFunctionEnv_cells S.kind hkind fun env he s1 x => ?_
  subst he
  refine ⟨lim.keeps x.toInCall.keep, codeAny_func ?_⟩
  obtain ⟨t, ht, hq⟩ := hbody A outer s H vs Q E (hr.deeper _) hsp
  have I : Inv (cxOf CX P w K mg base N qual scope f cdv A outer s H E) [] (start N vs) H s1 := inv_start S hr.hd e0 hl r x
  refine wpAny_mono (ht [] s1 (start N vs) H _ I hq) (fun fl s' hs => ?_) fun e s' hs => hs
  have fin : ∀ {σ' : St} {H' : Hp} {v : V} {u : Value}, Inv (cxOf CX P w K mg base N qual scope f cdv A outer s H E) [] σ' H' s' → RelV v u → Q v H' → CE outer P w H s Q u s' :=
    fun {σ' H' v u} J rv q => ⟨v, H', J.os, J.bare, J.base, J.hok, rv, q⟩
  cases fl with
  | ret u =>
    obtain ⟨v, σ', H', J, rv, q⟩ := hs
    exact fin J rv q
  | next =>
    obtain ⟨σ', H', J, q⟩ := hs
    exact fin (v := V.non) (u := Value.none) J rfl q
  | brk =>
    obtain ⟨_, _, _, q⟩ := hs
    exact False.elim q
  | cont =>
    obtain ⟨_, _, _, q⟩ := hs
    exact False.elim q
end L2
namespace L2
open PySem PySem.Spec PyProof.Rows
section
variable {X : Cx} {x : Str} {p pos : Pos} {e : Expr} {es : List Expr} {t : TA} {id T : String} {r : List V → Hp → VK → Prop}
def tCB (r : List V → Hp → VK → Prop) (t : TA) : TE := fun σ H Q => t σ H fun vs H1 => r vs H1 Q
theorem pe_callB (hc : CallR X (.builtin id) r) (hg : Gl X x) (hm : X.mg x = none) (hv : bootBuiltins x = some (.builtin id)) (ha : PA X (e :: es) t) (hn : x ≠ "__name__" := by decide) (hdb : (x == ("__debug__" : Str)) = false := by decide)
    (he : starEach (e :: es) X.env = (false, eval e X.env) :: starEach es X.env := by rfl) (hpl : (backTo pos (starEach es X.env)).any (·.1) = false := by rfl) : PE X (.Call (.Name x p) (e :: es) [] pos) (tCB r t) := by
  intro pins s σ H Q I h
  refine wpAny_Call_Name_kw (ld_blt I hg hm hv ?_ hn hdb)
  exact PyProof.Rows.callWith_builtin1 (thn (ha pos pins s σ H _ I h) fun us s1 ⟨vs, H1, I1, r1, q1⟩ => hc pins s1 σ H1 vs us Q I1 r1 q1) he hpl
theorem pe_callTy (hc : CallR X (.type T) r) (hg : Gl X x) (hm : X.mg x = none) (hv : bootBuiltins x = some (.type T)) (ha : PA X (e :: es) t) (hn : x ≠ "__name__" := by decide) (hdb : (x == ("__debug__" : Str)) = false := by decide)
    (he : starEach (e :: es) X.env = (false, eval e X.env) :: starEach es X.env := by rfl) (hpl : (backTo pos (starEach es X.env)).any (·.1) = false := by rfl) : PE X (.Call (.Name x p) (e :: es) [] pos) (tCB r t) := by
  intro pins s σ H Q I h
  refine wpAny_Call_Name_kw (ld_blt I hg hm hv ?_ hn hdb)
  exact PyProof.Rows.callWith_type1 (thn (ha pos pins s σ H _ I h) fun us s1 ⟨vs, H1, I1, r1, q1⟩ => hc pins s1 σ H1 vs us Q I1 r1 q1) he hpl
end
end L2
namespace HT
open PySem PyProof.Rows
section
open PySem.SeqAt
open PySem.AutoSeq1 (wpAny_loadPart')
open PySem.MeetsSeq PySem.MeetsSeq2 PySem.MeetsSeq3
end
section
variable {prog : Program} {w : World} {A : Around} {E : Value → Shared → Prop} {s : Shared}
def sIx (n d : Nat) : Option Int → Nat
  | none => d
  | some v => if v < 0 then (v + (n : Int)).toNat else min v.toNat n
theorem sIx_none (n d : Nat) : sIx n d none = d := rfl
theorem sIx_nat (n d k : Nat) : sIx n d (some (k : Int)) = min k n := by
  show (if (k : Int) < 0 then ((k : Int) + (n : Int)).toNat else min (k : Int).toNat n) = min k n
  rw [if_neg (by omega), Int.toNat_natCast]
end
end HT
namespace L2
open PySem PySem.Spec PyProof.Rows
abbrev TO := St → Hp → (Option Int → Hp → Prop) → Prop
def PO (X : Cx) (e : Option Expr) (t : TO) : Prop :=
  ∀ (pins : List (Addr × Obj)) (s : Shared) (σ : St) (H : Hp) (Q : Option Int → Hp → Prop), Inv X pins σ H s → t σ H Q →
    wpAny (model X.prog X.w) X.A (evalPart e X.env) (fun u s' => ∃ o H', Inv X pins σ H' s' ∧ IsPart u o ∧ Q o H') X.xe s
def tNoPart : TO := fun _ H Q => Q none H
def tPart (t : TE) : TO := fun σ H Q => t σ H fun x H1 => ∃ i, x = .int i ∧ Q (some i) H1
section
variable {X : Cx} {e : Expr} {te : TE} {lo hi : Option Expr} {tl th : TO} {pos p2 : Pos}
theorem po_none : PO X none tNoPart := by
  intro pins s σ H Q I h
  rw [evalPart_none]
  exact wpAny_pure ⟨none, H, I, .none, h⟩
theorem po_some (h : PE X e te) : PO X (some e) (tPart te) := by
  intro pins s σ H Q I hw
  rw [evalPart_some]
  refine thn (h pins s σ H _ I hw) fun u s1 ⟨x, H1, I1, r1, q1⟩ => ?_
  obtain ⟨i, rfl, q⟩ := q1
  obtain ⟨t, rfl⟩ := r1
  exact ⟨some i, H1, I1, .int i t, q⟩
def SlR (X : Cx) (r : V → Option Int → Option Int → Hp → VK → Prop) : Prop :=
  ∀ (pins : List (Addr × Obj)) (s : Shared) (σ : St) (H : Hp) (x : V) (v vl vu : Value) (lo hi : Option Int) (sl : Addr) (Q : VK), Inv X pins σ H s → RelV x v → s.heap.IsSliceOf sl vl vu .none → IsPart vl lo → IsPart vu hi → r x lo hi H Q →
    ∃ T id, typeLookup (.type T) "__getitem__" = pure (some (.builtin id)) ∧ s.TypeIs v T ∧ wpAny (model X.prog X.w) X.A (getItem v (.ref sl)) (EP X pins σ Q) X.xe s
def tSl (r : V → Option Int → Option Int → Hp → VK → Prop) (te : TE) (tl th : TO) : TE := fun σ H Q => te σ H fun x H1 => tl σ H1 fun l H2 => th σ H2 fun u H3 => r x l u H3 Q
theorem pe_slice {r : V → Option Int → Option Int → Hp → VK → Prop} (hr : SlR X r) (he : PE X e te) (hl : PO X lo tl) (hu : PO X hi th) : PE X (.Subscript e (.Slice lo hi none p2) pos) (tSl r te tl th) := by
  intro pins s σ H Q I h
  refine Subscript_ (thn (he pins s σ H _ I h) fun v s1 ⟨x, H1, I1, r1, q1⟩ => ?_)
  refine wpAny_Slice (thn (hl pins s1 σ H1 _ I1 q1) fun vl s2 ⟨l, H2, I2, pl, q2⟩ => thn (hu pins s2 σ H2 _ I2 q2) fun vu s3 ⟨u, H3, I3, pu, q3⟩ => ?_)
  rw [evalPart_none]
  refine wpAny_pure ?_
  have I4 : Inv X pins σ H3 { s3 with heap := s3.heap.push { cls := .type "slice", data := .fields #[vl, vu, .none] } } := I3.kept (t' := s3.toks) fun b ob q => Heap.get?_push_of_some _ q
  obtain ⟨T, id, hT, ht, hg⟩ := hr pins { s3 with heap := s3.heap.push { cls := .type "slice", data := .fields #[vl, vu, .none] } } σ H3 x v vl vu l u s3.heap.objs.size Q I4 r1 (Heap.IsSliceOf.new ..) pl pu q3
  show wpAny (model X.prog X.w) X.A (subscriptTail e (.Slice lo hi none p2) v (.ref s3.heap.objs.size)) (EP X pins σ Q) X.xe { s3 with heap := s3.heap.push { cls := .type "slice", data := .fields #[vl, vu, .none] } }
  exact tail_any (ops := [.ref s3.heap.objs.size, v]) ht hT hg (by with_unfolding_all rfl)
def cutV (xs : List V) (lo hi : Option Int) : List V := (xs.drop (HT.sIx xs.length 0 lo)).take (HT.sIx xs.length xs.length hi - HT.sIx xs.length 0 lo)
theorem cutV_length (xs : List V) (lo hi : Option Int) : (cutV xs lo hi).length ≤ xs.length := by
  unfold cutV
  rw [List.length_take, List.length_drop]
  omega
end
end L2
namespace L2
open PySem PySem.Spec PyProof.Rows
def ixN (n : Nat) (i : Int) : Option Nat := if 0 ≤ i then (if i < n then some i.toNat else none) else if -(n : Int) ≤ i then some (i + n).toNat else none
def atI {α : Type} (xs : List α) (i : Int) : Option α := (ixN xs.length i).bind fun j => xs[j]?
theorem ixN_seq {n : Nat} {i : Int} {j : Nat} (h : ixN n i = some j) : seqIndex? i n = some j ∧ j < n ∧ -(n : Int) ≤ i ∧ i < n := by
  unfold ixN at h
  by_cases h0 : 0 ≤ i
  · rw [if_pos h0] at h
    by_cases h1 : i < n
    · rw [if_pos h1] at h
      have e : i.toNat = j := Option.some.inj h
      exact ⟨by rw [seqIndex_of h0 h1, e], by omega, by omega, h1⟩
    · rw [if_neg h1] at h; cases h
  · rw [if_neg h0] at h
    by_cases h1 : -(n : Int) ≤ i
    · rw [if_pos h1] at h
      have e : (i + n).toNat = j := Option.some.inj h
      exact ⟨by rw [seqIndex_neg (by omega) h1, e], by omega, h1, by omega⟩
    · rw [if_neg h1] at h; cases h
theorem atI_get {α : Type} {xs : List α} {i : Int} {v : α} (h : atI xs i = some v) : ∃ j, seqIndex? i xs.length = some j ∧ xs[j]? = some v ∧ j < xs.length ∧ -(xs.length : Int) ≤ i ∧ i < xs.length := by
  unfold atI at h
  cases e : ixN xs.length i with
  | none => rw [e] at h; cases h
  | some j =>
    rw [e] at h
    obtain ⟨h1, h2, h3, h4⟩ := ixN_seq e
    exact ⟨j, h1, h, h2, h3, h4⟩
theorem atI_nat {α : Type} {xs : List α} {j : Nat} {v : α} (h : xs[j]? = some v) : atI xs (j : Int) = some v := by
  have hj : j < xs.length := (List.getElem?_eq_some_iff.mp h).1
  have e : ixN xs.length (j : Int) = some j := by
    unfold ixN
    rw [if_pos (by omega), if_pos (by omega)]; simp
  unfold atI; rw [e]; exact h
def PlainIx (b : Expr) : Prop := ∀ o i, subscripted b false o i = operate [o, i] (getItem o i)
def IxR (X : Cx) (r : R2) : Prop :=
  ∀ (value slice : Expr) (pins : List (Addr × Obj)) (s : Shared) (σ : St) (H : Hp) (x y : V) (v u : Value) (Q : VK), Inv X pins σ H s → RelV x v → RelV y u → r x y H Q →
    subscripted slice false v u = operate [v, u] (getItem v u) → wpAny (model X.prog X.w) X.A (subscriptTail value slice v u) (EP X pins σ Q) X.xe s
def MtR (X : Cx) (id : String) (r : V → List V → Hp → VK → Prop) : Prop :=
  ∀ (pins : List (Addr × Obj)) (s : Shared) (σ : St) (H : Hp) (x : V) (xs : List V) (v : Value) (us : List Value) (Q : VK), Inv X pins σ H s → RelV x v → Vals xs us → r x xs H Q →
    wpAny (model X.prog X.w) X.A (call (.builtin id) (v :: us)) (EP X pins σ Q) X.xe s
section
variable {X : Cx} {a b : Expr} {ta tb : TE} {pos : Pos}
theorem pe_ix {r : R2} (hr : IxR X r) (ha : PE X a ta) (hb : PE X b tb) (hs : PlainIx b) : PE X (.Subscript a b pos) (tOp r ta tb) := by
  intro pins s σ H Q I h
  exact Subscript_ (binT ha hb I h fun v u s2 x y H2 I2 rx ry q => hr a b pins s2 σ H2 x y v u Q I2 rx ry q (hs _ _))
def rIxL (K : PySem.W.Frag) : R2 := fun x y H Q => ∃ p xs i v, x = .ref p ∧ y = .int i ∧ SqL K H p xs ∧ atI xs i = some v ∧ Q v H
def rIxT (K : PySem.W.Frag) : R2 := fun x y H Q => ∃ p xs i v, x = .ref p ∧ y = .int i ∧ SqT K H p xs ∧ atI xs i = some v ∧ Q v H
theorem ix_list : IxR X (rIxL X.K) := by
  intro value slice pins s σ H x y v u Q I rx ry h hs
  obtain ⟨p, xs, i, z, rfl, rfl, hq, he, q⟩ := h
  cases rx
  obtain ⟨t, rfl⟩ := ry
  obtain ⟨its, r, pl, hz⟩ := I.list hq
  obtain ⟨j, h1, h2, h3, h4, h5⟩ := atI_get he
  obtain ⟨w, ew, rw'⟩ := r.get h2
  have hl := r.length
  have hn := line63
  have fin : EP X pins σ Q w s := ⟨z, H, I, rw', q⟩
  by_cases h0 : 0 ≤ i
  · have hj : i.toNat = j := by
      rw [seqIndex_of h0 h5] at h1
      exact Option.some.inj h1
    exact item_listR pl.isList h0 (by omega) (by rw [hj]; simpa using ew) fin hs
  · have hj : (i + (its.toArray.size : Int)).toNat = j := by
      rw [seqIndex_neg (by omega) h4] at h1
      rw [List.size_toArray, ← hl]
      exact Option.some.inj h1
    exact subscriptTail_builtinR (x := w) pl.isList.typeIs slot_list_getitem.lookup
      (wpAny_getItem_list_neg (Q := fun r s' => r = w ∧ EP X pins σ Q r s') pl.isList (by omega) (by rw [List.size_toArray] <;> omega) (by omega) (by rw [hj]; simpa using ew) ⟨rfl, fin⟩) hs
theorem ix_tup : IxR X (rIxT X.K) := by
  intro value slice pins s σ H x y v u Q I rx ry h hs
  obtain ⟨p, xs, i, z, rfl, rfl, hq, he, q⟩ := h
  cases rx
  obtain ⟨t, rfl⟩ := ry
  obtain ⟨its, r, pl, hz⟩ := I.tuple hq
  obtain ⟨j, h1, h2, h3, h4, h5⟩ := atI_get he
  obtain ⟨w, ew, rw'⟩ := r.get h2
  have hl := r.length
  have hn := line63
  have fin : EP X pins σ Q w s := ⟨z, H, I, rw', q⟩
  exact subscriptTail_builtinR (x := w) pl.typeIs slot_tuple_getitem.lookup
    (getItem_tuple (j := j) (Q := fun r s' => r = w ∧ EP X pins σ Q r s') pl (by omega) (by omega) (by rw [List.size_toArray, ← hl]; exact h1) (by simpa using ew) ⟨rfl, fin⟩) hs
theorem mapSeq_set (its : List Value) (n j : Nat) (u : Value) : Obj.mapSeq (·.setIfInBounds j u) { cls := .type "list", data := .seq its.toArray n } = { cls := .type "list", data := .seq (its.set j u).toArray n } := by
  simp [Obj.mapSeq]
theorem Inv.lst {pins : List (Addr × Obj)} {σ : St} {H : Hp} {s : Shared} {p : Addr} {xs : List V} (I : Inv X pins σ H s) (h : H p = some (.lst xs)) :
    ∃ (its : List Value) (n : Nat), Vals xs its ∧ s.heap.get? p = some { cls := .type "list", data := .seq its.toArray n } ∧ xs.length ≤ sizeLine := by
  obtain ⟨z, its, n, r, e⟩ := I.hok p _ h
  exact ⟨its, n, r, e, z⟩
theorem Inv.lstUpd {pins : List (Addr × Obj)} {σ : St} {H : Hp} {s : Shared} {p : Addr} {xs ys : List V} {its its' : List Value} {n n' : Nat} {f : Obj → Obj} (I : Inv X pins σ H s) (h : H p = some (.lst xs))
    (ho : s.heap.get? p = some { cls := .type "list", data := .seq its.toArray n }) (hf : f { cls := .type "list", data := .seq its.toArray n } = { cls := .type "list", data := .seq its'.toArray n' }) (r : Vals ys its') (hz : ys.length ≤ sizeLine) (t : Nat) :
    Inv X pins σ (upd H p (.lst ys)) { s with heap := s.heap.update p f, toks := t } := by
  have e : (s.heap.update p f).get? p = some { cls := .type "list", data := .seq its'.toArray n' } := by
    rw [Heap.get?_update_self f ho (by rw [hf] <;> rfl), hf]
  refine I.write (x := p) (e := p) (by rw [h]; trivial) (.inl rfl) (fun b u hb q => (Heap.get?_update_other _ _ (Ne.symm hb)).trans q) ⟨_, e⟩ ?_
  exact ⟨hz, its', n', r, e⟩
def rSetL : V → V → V → Hp → (Hp → Prop) → Prop := fun o i v H Q => ∃ p xs k j, o = .ref p ∧ i = .int k ∧ H p = some (.lst xs) ∧ ixN xs.length k = some j ∧ Q (upd H p (.lst (xs.set j v)))
theorem set_list : PSet X rSetL := by
  intro pins s σ H o i v ov iv u Q I ro ri rv h
  obtain ⟨p, xs, k, j, rfl, rfl, hp, hj, q⟩ := h
  cases ro
  obtain ⟨t, rfl⟩ := ri
  obtain ⟨its, n, r, ho, hz⟩ := I.lst hp
  obtain ⟨h1, h2, h3, h4⟩ := ixN_seq hj
  have hl := r.length
  have hn := line63
  have I' : Inv X pins σ (upd H p (.lst (xs.set j v))) { s with heap := s.heap.update p (Obj.mapSeq (·.setIfInBounds j u)) } :=
    I.lstUpd hp ho (mapSeq_set its n j u) (r.set rv j) (by rw [List.length_set]; exact hz) s.toks
  by_cases h0 : 0 ≤ k
  · have hk : k.toNat = j := by
      rw [seqIndex_of h0 h4] at h1
      exact Option.some.inj h1
    exact PySem.W.ki_setAt ho h0 (by omega) (by rw [List.size_toArray, ← hl]; exact h4) (by rw [hk]; exact ⟨_, I', q⟩)
  · have hk : (k + (its.toArray.size : Int)).toNat = j := by
      rw [seqIndex_neg (by omega) h3] at h1
      rw [List.size_toArray, ← hl]
      exact Option.some.inj h1
    exact PySem.W.ki_setBack ho (by omega) (by rw [List.size_toArray, ← hl]; exact h3) (by omega) (by rw [hk]; exact ⟨_, I', q⟩)
theorem slice_bounds (lo hi : Option Int) (n : Nat) : (sliceBounds lo hi none n).1 = ((HT.sIx n 0 lo : Nat) : Int) ∧ (sliceBounds lo hi none n).2.1 = ((HT.sIx n n hi : Nat) : Int) ∧ (sliceBounds lo hi none n).2.2 = 1 := by
  refine ⟨?_, ?_, rfl⟩
  · cases lo with
    | none => simp [sliceBounds, HT.sIx]
    | some i =>
      simp only [sliceBounds, HT.sIx, Option.getD_none, show (1 : Int) > 0 by decide, if_true]
      by_cases h : i < 0
      · simp only [h, if_true] <;> omega
      · simp only [h, if_false] <;> omega
  · cases hi with
    | none => simp [sliceBounds, HT.sIx]
    | some i =>
      simp only [sliceBounds, HT.sIx, Option.getD_none, show (1 : Int) > 0 by decide, if_true]
      by_cases h : i < 0
      · simp only [h, if_true] <;> omega
      · simp only [h, if_false] <;> omega
theorem slicePick_cut (its : List Value) (lo hi : Option Int) : slicePick its.toArray lo hi none = ((its.drop (HT.sIx its.length 0 lo)).take (HT.sIx its.length its.length hi - HT.sIx its.length 0 lo)).toArray := by
  obtain ⟨h1, h2, h3⟩ := slice_bounds lo hi its.toArray.size
  unfold slicePick
  rw [h1, h2, h3]
  simp only [sliceRange_one, pick_run, List.size_toArray] <;> rfl
def rSlL (K : PySem.W.Frag) : V → Option Int → Option Int → Hp → VK → Prop := fun x lo hi H Q => ∃ a xs, x = .ref a ∧ SqL K H a xs ∧ ∀ p, H p = none → Q (.ref p) (upd H p (.lst (cutV xs lo hi)))
theorem sl_list : SlR X (rSlL X.K) := by
  intro pins s σ H x v vl vu lo hi sl Q I rx hs pl pu h
  obtain ⟨a, xs, rfl, hx, q⟩ := h
  cases rx
  obtain ⟨its, r, ht, hz⟩ := I.list hx
  have hlen := r.length
  refine ⟨"list", _, slot_list_getitem.lookup, ht.isList.typeIs, ?_⟩
  refine wpAny_getItem_list_slice ht.isList hs pl pu .none (by simp) ?_ (by rw [List.size_toArray] <;> omega)
  rw [slicePick_cut, ← hlen]
  refine ⟨.ref s.heap.objs.size, _, I.laid (t' := s.toks) (o := .lst (cutV xs lo hi)) (fun b ob q => Heap.get?_push_of_some _ q) (Nat.le_refl _) ?_, rfl, q _ (I.hok.fresh (Nat.le_refl _))⟩
  exact ⟨Nat.le_trans (cutV_length xs lo hi) hz, _, 0, (r.drop (HT.sIx xs.length 0 lo)).take (HT.sIx xs.length xs.length hi - HT.sIx xs.length 0 lo), Heap.get?_push_size _ rfl⟩
def flatV : V → Bool
  | .non => true
  | .bl _ => true
  | .int _ => true
  | .str _ => true
  | _ => false
def eqV : V → V → Bool
  | .non, .non => true
  | .bl a, .bl b => a == b
  | .bl a, .int b => (if a then 1 else 0) == b
  | .int a, .bl b => a == (if b then 1 else 0)
  | .int a, .int b => a == b
  | .str a, .str b => a == b
  | _, _ => false
theorem eqAt_V {A : Around} {s : Shared} {y x : V} {u v : Value} (ry : RelV y u) (rx : RelV x v) (fy : flatV y = true) (fx : flatV x = true) : SeqAt.EqAt A s u v (eqV y x) := by
  cases y with
  | non =>
    cases ry
    cases x with
    | non => cases rx; exact SeqAt.EqAt.same _
    | bl b => cases rx; exact SeqAt.EqAt.none_bool b
    | int b => obtain ⟨t, rfl⟩ := rx; exact SeqAt.EqAt.none_int b t
    | str b => obtain ⟨t, rfl⟩ := rx; exact SeqAt.EqAt.none_str b t
    | _ => exact absurd (show false = true from fx) Bool.false_ne_true
  | bl a =>
    cases ry
    cases x with
    | non => cases rx; exact SeqAt.EqAt.bool_none a
    | bl b => cases rx; exact SeqAt.EqAt.bool_bool a b
    | int b => obtain ⟨t, rfl⟩ := rx; exact SeqAt.EqAt.bool_int a b t
    | str b => obtain ⟨t, rfl⟩ := rx; exact SeqAt.EqAt.bool_str a b t
    | _ => exact absurd (show false = true from fx) Bool.false_ne_true
  | int a =>
    obtain ⟨t', rfl⟩ := ry
    cases x with
    | non => cases rx; exact SeqAt.EqAt.int_none a t'
    | bl b => cases rx; exact SeqAt.EqAt.int_bool a t' b
    | int b => obtain ⟨t, rfl⟩ := rx; exact SeqAt.EqAt.int_int a t' b t
    | str b => obtain ⟨t, rfl⟩ := rx; exact SeqAt.EqAt.int_str a t' b t
    | _ => exact absurd (show false = true from fx) Bool.false_ne_true
  | str a =>
    obtain ⟨t', rfl⟩ := ry
    cases x with
    | non => cases rx; exact SeqAt.EqAt.str_none a t'
    | bl b => cases rx; exact SeqAt.EqAt.str_bool a t' b
    | int b => obtain ⟨t, rfl⟩ := rx; exact SeqAt.EqAt.str_int a t' b t
    | str b => obtain ⟨t, rfl⟩ := rx; exact SeqAt.EqAt.str_str a t' b t
    | _ => exact absurd (show false = true from fx) Bool.false_ne_true
  | _ => exact absurd (show false = true from fy) Bool.false_ne_true
def eqU (x : V) (u : Value) : Bool := match u with
  | .none => eqV .non x
  | .bool b => eqV (.bl b) x
  | .int i _ => eqV (.int i) x
  | .str z _ => eqV (.str z) x
  | _ => false
theorem eqU_of {x y : V} {u : Value} (r : RelV y u) (f : flatV y = true) : eqU x u = eqV y x := by
  cases y with
  | non => cases r; rfl
  | bl b => cases r; rfl
  | int i => obtain ⟨t, rfl⟩ := r; rfl
  | str z => obtain ⟨t, rfl⟩ := r; rfl
  | _ => exact absurd (show false = true from f) Bool.false_ne_true
theorem mem_eqAt {A : Around} {s : Shared} {x : V} {v : Value} (rx : RelV x v) (fx : flatV x = true) : ∀ {xs : List V} {us : List Value}, Vals xs us → xs.all flatV = true → ∀ u ∈ us, SeqAt.EqAt A s u v (eqU x u)
  | _, _, .nil, _ => fun u hu => by cases hu
  | y :: xs, u :: us, .cons r t, f => fun u' hu => by
    rw [List.all_cons, Bool.and_eq_true] at f
    rcases List.mem_cons.mp hu with rfl | hu
    · rw [eqU_of r f.1]; exact eqAt_V r rx f.1 fx
    · exact mem_eqAt rx fx t f.2 u' hu
theorem call_len_seq : CallR X (.builtin "len") (fun xs H Q => ∃ p ys, xs = [.ref p] ∧ (SqL X.K H p ys ∨ SqT X.K H p ys) ∧ Q (.int ys.length) H) := by
  intro pins s σ H xs us Q I r h
  obtain ⟨p, ys, rfl, hq, q⟩ := h
  obtain ⟨u, rfl, rx⟩ := vals1 r
  cases rx
  have hn := line63
  rcases hq with hq | hq
  · obtain ⟨its, r', pl, hz⟩ := I.list hq
    have hlen := r'.length
    exact Calls.call_len_list pl.isList (by simp only [List.size_toArray] <;> omega) ⟨.int ys.length, H, I.tok _, ⟨s.toks + 1, by rw [List.size_toArray, hlen]⟩, q⟩
  · obtain ⟨its, r', pl, hz⟩ := I.tuple hq
    have hlen := r'.length
    exact len_tuple pl (by simp only [List.size_toArray] <;> omega) ⟨.int ys.length, H, I.tok _, ⟨s.toks + 1, by rw [List.size_toArray, hlen]⟩, q⟩
theorem call_list_of : CallR X (.type "list") (fun xs H Q => ∃ p ys, xs = [.ref p] ∧ (SqL X.K H p ys ∨ SqT X.K H p ys) ∧ ∀ l, H l = none → Q (.ref l) (upd H l (.lst ys))) := by
  intro pins s σ H xs us Q I r h
  obtain ⟨p, ys, rfl, hq, q⟩ := h
  obtain ⟨u, rfl, rx⟩ := vals1 r
  cases rx
  have fin : ∀ (its : List Value), Vals ys its → ys.length ≤ sizeLine → ∀ (h' : Heap) (c' : Nat), (∀ b o', s.heap.get? b = some o' → h'.get? b = some o') →
      h'.get? s.heap.objs.size = some { cls := .type "list", dict := none, data := .seq its.toArray c', slots := #[] } → EP X pins σ Q (.ref s.heap.objs.size) { s with heap := h' } := fun its r' hz h' c' kp e =>
    ⟨.ref s.heap.objs.size, _, I.laid (t' := s.toks) kp (Nat.le_refl _) (show ObjOk X.prog X.w _ h' _ (.lst ys) from ⟨hz, its, c', r', e⟩), rfl, q _ (I.hok.fresh (Nat.le_refl _))⟩
  rcases hq with hq | hq
  · obtain ⟨its, r', pl, hz⟩ := I.list hq
    have hlen := r'.length
    obtain ⟨o, ho, hc, n, hd⟩ := pl.isList
    exact call_list_seq p (.inl rfl) ho hc hd (fun h' c' kp e => fin its r' hz h' c' kp e) (by simp only [List.size_toArray] <;> omega)
  · obtain ⟨its, r', pl, hz⟩ := I.tuple hq
    have hlen := r'.length
    obtain ⟨o, ho, hc, n, hd⟩ := pl
    exact call_list_seq p (.inr rfl) ho hc hd (fun h' c' kp e => fin its r' hz h' c' kp e) (by simp only [List.size_toArray] <;> omega)
def tyV (K : PySem.W.Frag) (T : String) (x : V) (H : Hp) : Prop := match x with
  | .str _ => T = "str"
  | .int _ => T = "int"
  | .ref p => (T = "list" ∧ ∃ xs, SqL K H p xs) ∨ (T = "tuple" ∧ ∃ o, K.lookup p = some o ∧ o.cls = .type "tuple" ∧ o.dict = none) ∨
      (T = "dict" ∧ ((∃ kvs, H p = some (.dK kvs)) ∨ ∃ kvs, H p = some (.dT kvs))) ∨ (T = "set" ∧ ∃ S n, H p = some (.set S n))
  | _ => False
theorem tyV_is {pins : List (Addr × Obj)} {σ : St} {H : Hp} {s : Shared} {T : String} {x : V} {v : Value} (I : Inv X pins σ H s) (r : RelV x v) (ty : tyV X.K T x H) :
    s.TypeIs v T ∧ ∀ a, v = .ref a → ∃ ob, s.heap.get? a = some ob ∧ ob.dict = none := by
  cases x with
  | str z =>
    obtain ⟨t, rfl⟩ := r
    cases (show T = "str" from ty)
    exact ⟨typeIs_str s z t, fun _ e => nomatch e⟩
  | int i =>
    obtain ⟨t, rfl⟩ := r
    cases (show T = "int" from ty)
    exact ⟨typeIs_int s i t, fun _ e => nomatch e⟩
  | ref p =>
    cases r
    rcases ty with ⟨rfl, xs, hq⟩ | ⟨rfl, o, hk, hc, hd⟩ | ⟨rfl, hk⟩ | ⟨rfl, S, n, hk⟩
    · obtain ⟨its, _, pl, _⟩ := I.list hq
      refine ⟨pl.isList.typeIs, fun a e => ?_⟩
      cases e
      obtain ⟨o, n, e, c, hd, _⟩ := pl
      exact ⟨o, e, hd⟩
    · refine ⟨⟨o, I.kIn p o hk, hc⟩, fun a e => ?_⟩
      cases e
      exact ⟨o, I.kIn _ o hk, hd⟩
    · have z : ∃ o, s.heap.get? p = some o ∧ o.ExactDict := by
        rcases hk with ⟨kvs, hk⟩ | ⟨kvs, hk⟩
        · obtain ⟨_, _, _, _, o, _, _, e, ex, _⟩ := I.hok p _ hk
          exact ⟨o, e, ex⟩
        · obtain ⟨_, _, _, _, o, _, _, e, ex, _⟩ := I.hok p _ hk
          exact ⟨o, e, ex⟩
      obtain ⟨o, e, ex⟩ := z
      refine ⟨⟨o, e, ex.1⟩, fun a e2 => ?_⟩
      cases e2
      exact ⟨o, e, ex.2.1⟩
    · obtain ⟨o, _, _, _, e, ex, _⟩ := I.hok p _ hk
      refine ⟨⟨o, e, ex.1⟩, fun a e2 => ?_⟩
      cases e2
      exact ⟨o, e, ex.2.1⟩
  | _ => exact False.elim ty
def tBM (K : PySem.W.Frag) (T : String) (r : V → List V → Hp → VK → Prop) (to : TE) (t : TA) : TE := fun σ H Q => to σ H fun x H1 => tyV K T x H1 ∧ t σ H1 fun xs H2 => r x xs H2 Q
variable {o e : Expr} {es : List Expr} {to : TE} {t : TA} {name : Str} {apos cpos : Pos} {T id : String} {r : V → List V → Hp → VK → Prop}
theorem pe_bm (pa : PlainAttrs T) (slot : Slot T name id) (hty : typeOf (.builtin id) = pure (.type "method_descriptor")) (hm : MtR X id r) (ho : PE X o to) (ha : PA X (e :: es) t)
    (hbase : attributeBase o name X.env (eval o X.env) = eval o X.env := by rfl)
    (hfew : ((backTo cpos (starEach (e :: es) X.env)).all (fun x => !x.1) && (backToKw cpos (keywordEach [] X.env)).all (fun x => x.1.isSome)
      && decide ((e :: es).length + ([] : List Keyword).length + (if ([] : List Keyword).isEmpty then 0 else 1) < 30)) = true := by rfl)
    (hline : (apos.endLine == cpos.line) = true := by rfl) (hs : starEach (e :: es) X.env = (false, eval e X.env) :: starEach es X.env := by rfl) (hplain : (backTo cpos (starEach es X.env)).any (·.1) = false := by rfl) :
    PE X (.Call (.Attribute o name apos) (e :: es) [] cpos) (tBM X.K T r to t) := by
  intro pins s σ H Q I h
  refine wpAny_Call_method_late hbase hfew hline rfl (thn (ho pins s σ H _ I h) fun v s1 ⟨x, H1, I1, r1, ty, q1⟩ => ?_)
  obtain ⟨h1, h2⟩ := tyV_is I1 r1 ty
  refine ⟨T, id, pa, slot, hty, h1, h2, ?_⟩
  have hA := ha cpos pins s1 σ H1 _ I1 q1
  rw [hs] at hA ⊢
  refine Calls.callWith_builtin (by show (false || (backTo cpos (starEach es X.env)).any (·.1)) = false; rw [hplain] <;> rfl) (Calls.evalArgs_plain ?_)
  exact thn hA fun us s2 ⟨vs, H2, I2, r2, q2⟩ => hm pins s2 σ H2 x vs v us Q I2 r1 r2 q2
end
end L2
namespace L2
open PySem PySem.Spec PyProof.Rows
def MtM (X : Cx) (id : String) (r : V → List V → Hp → VK → Prop) : Prop :=
  ∀ (pins : List (Addr × Obj)) (s : Shared) (σ : St) (H : Hp) (x : V) (xs : List V) (v : Value) (us : List Value) (Q : VK), Inv X pins σ H s → RelV x v → Vals xs us → r x xs H Q →
    wpAny (model X.prog X.w) X.A (call (.builtin id) (v :: us)) (EP X pins σ Q) X.xe s
theorem Vals.one : ∀ {x : V} {us : List Value}, Vals [x] us → ∃ u, us = [u] ∧ RelV x u
  | _, _, .cons r .nil => ⟨_, rfl, r⟩
theorem Vals.rep {xs : List V} {us : List Value} (h : Vals xs us) : ∀ k : Nat, Vals (List.replicate k xs).flatten (List.replicate k us).flatten
  | 0 => .nil
  | k + 1 => by
    rw [List.replicate_succ, List.replicate_succ, List.flatten_cons, List.flatten_cons]
    exact Vals.append h (Vals.rep h k)
theorem foldl_rep (its : List Value) : ∀ (k : Nat) (acc : List Value),
    List.foldl (fun x1 x2 => x1 ++ x2) acc.toArray (List.replicate k its.toArray) = (acc ++ (List.replicate k its).flatten).toArray
  | 0, acc => by simp
  | k + 1, acc => by
    have e : acc.toArray ++ its.toArray = (acc ++ its).toArray := by simp
    have e2 : (acc ++ its) ++ (List.replicate k its).flatten = acc ++ (List.replicate (k + 1) its).flatten := by
      rw [List.replicate_succ, List.flatten_cons, List.append_assoc]
    rw [← e2, ← foldl_rep its k (acc ++ its), ← e, List.replicate_succ, List.foldl_cons]
section
variable {X : Cx} {pins : List (Addr × Obj)} {σ : St} {H : Hp} {s : Shared} {l b : Addr} {xs ys zs : List V}
theorem Inv.lset {its its' : List Value} {n : Nat} {f : Array Value → Array Value} {t' : Nat} (I : Inv X pins σ H s) (hH : H l = some (.lst xs))
    (e : s.heap.get? l = some { cls := .type "list", data := .seq its.toArray n }) (hf : f its.toArray = its'.toArray) (hv : Vals ys its') (hz : ys.length ≤ sizeLine) :
    Inv X pins σ (upd H l (.lst ys)) { s with heap := s.heap.update l (Obj.mapSeq f), toks := t' } := by
  have q := PySem.IsL.update e f
  rw [hf] at q
  refine I.write (x := l) (e := l) (by rw [hH]; exact trivial) (.inl rfl) (fun b' u hb hu => (Heap.get?_update_other s.heap (Obj.mapSeq f) (Ne.symm hb)).trans hu) ⟨_, q⟩ ?_
  exact ⟨hz, its', _, hv, q⟩
theorem Inv.lnew {its : List Value} {t' : Nat} (I : Inv X pins σ H s) (hv : Vals ys its) (hz : ys.length ≤ sizeLine) :
    Inv X pins σ (upd H s.heap.objs.size (.lst ys)) { s with heap := s.heap.push { cls := .type "list", data := .seq its.toArray }, toks := t' } :=
  I.laid (fun _ _ q => Heap.get?_push_of_some _ q) (Nat.le_refl _) ⟨hz, its, 0, hv, Heap.get?_push_size _ rfl⟩
theorem Inv.fresh (I : Inv X pins σ H s) : H s.heap.objs.size = none := I.hok.fresh (Nat.le_refl _)
theorem Inv.lstM (I : Inv X pins σ H s) (hH : H l = some (.lst xs)) : xs.length ≤ sizeLine ∧ ∃ (its : List Value) (n : Nat), Vals xs its ∧ xs.length = its.length ∧ s.heap.get? l = some { cls := .type "list", data := .seq its.toArray n } := by
  obtain ⟨z, its, n, r, e⟩ := I.hok l _ hH
  exact ⟨z, its, n, r, r.length, e⟩
theorem notLongL {n : Nat} (h : n ≤ sizeLine) : Builtin.List.listTooLong n = false := by
  unfold Builtin.List.listTooLong
  exact decide_eq_false (by omega)
end
section
variable {X : Cx}
def rAppend : V → List V → Hp → VK → Prop := fun x vs H Q => ∃ l xs y, x = .ref l ∧ vs = [y] ∧ H l = some (.lst xs) ∧ xs.length < sizeLine ∧ Q .non (upd H l (.lst (xs ++ [y])))
theorem mt_append : MtM X "list.append" rAppend := by
  intro pins s σ H x vs v us Q I rx rv h
  obtain ⟨l, xs, y, rfl, rfl, hH, hz, q⟩ := h
  cases rx
  obtain ⟨u, rfl, ru⟩ := rv.one
  obtain ⟨z, its, n, r, hl, e⟩ := I.lstM hH
  refine call_meets F.slot_list_append ⟨_, e, rfl⟩ F.entry_list_append (F.args_list_append_2 _ _) (PySem.list_append l its.toArray n u (by rw [List.size_toArray]; omega)) ⟨e, ?_⟩
  refine ⟨.non, _, I.lset (its' := its ++ [u]) hH e (by simp) (r.append (.cons ru .nil)) ?_, rfl, q⟩
  rw [List.length_append, List.length_singleton]
  omega
def rExtend : V → List V → Hp → VK → Prop := fun x vs H Q => ∃ l b xs zs, x = .ref l ∧ vs = [.ref b] ∧ H l = some (.lst xs) ∧ H b = some (.lst zs) ∧ xs.length + zs.length ≤ sizeLine ∧ Q .non (upd H l (.lst (xs ++ zs)))
theorem mt_extend : MtM X "list.extend" rExtend := by
  intro pins s σ H x vs v us Q I rx rv h
  obtain ⟨l, b, xs, zs, rfl, rfl, hH, hB, hz, q⟩ := h
  cases rx
  obtain ⟨u, rfl, ru⟩ := rv.one
  cases ru
  obtain ⟨z, its, n, r, hl, e⟩ := I.lstM hH
  obtain ⟨z2, its2, n2, r2, hl2, e2⟩ := I.lstM hB
  have hsz : its.toArray.size + its2.toArray.size ≤ sizeLine := by rw [List.size_toArray, List.size_toArray]; omega
  have hlong : ¬ (!its.toArray.isEmpty && Builtin.List.listTooLong (its.toArray.size + its2.toArray.size)) = true := by
    rw [notLongL hsz, Bool.and_false]
    exact Bool.false_ne_true
  refine call_meets F.slot_list_extend ⟨_, e, rfl⟩ F.entry_list_extend (F.args_list_extend_2 _ _)
    (AutoSeq1.list_extend_list_list_0 l its.toArray n b its2.toArray n2 hlong (by rw [List.size_toArray]; omega) (by omega)) ⟨e, e2, ?_⟩
  refine ⟨.non, _, I.lset (its' := its ++ its2) hH e (by simp) (r.append r2) ?_, rfl, q⟩
  rw [List.length_append]
  omega
def rCat : R2 := fun x y H Q => ∃ l b xs zs, x = .ref l ∧ y = .ref b ∧ H l = some (.lst xs) ∧ H b = some (.lst zs) ∧ xs.length + zs.length ≤ sizeLine ∧ ∀ p, H p = none → Q (.ref p) (upd H p (.lst (xs ++ zs)))
theorem op_cat : OpR X (binaryOp .Add) rCat := by
  intro pins s σ H x y v u Q I rx ry h
  obtain ⟨l, b, xs, zs, rfl, rfl, hH, hB, hz, q⟩ := h
  cases rx
  cases ry
  obtain ⟨z, its, n, r, hl, e⟩ := I.lstM hH
  obtain ⟨z2, its2, n2, r2, hl2, e2⟩ := I.lstM hB
  refine PySem.P.add_list e e2 ?_ (by rw [List.size_toArray, List.size_toArray]; omega)
  have ea : its.toArray ++ its2.toArray = (its ++ its2).toArray := by simp
  rw [ea]
  exact ⟨.ref _, _, I.lnew (t' := s.toks) (r.append r2) (by rw [List.length_append]; omega), rfl, q _ I.fresh⟩
def rRep : R2 := fun x y H Q => ∃ l k xs, x = .ref l ∧ y = .int k ∧ H l = some (.lst xs) ∧ -(2 ^ 63) ≤ k ∧ k < 2 ^ 63 ∧ xs.length * k.toNat ≤ sizeLine ∧
  ∀ p, H p = none → Q (.ref p) (upd H p (.lst (List.replicate k.toNat xs).flatten))
theorem len_rep {α : Type} (xs : List α) (k : Nat) : (List.replicate k xs).flatten.length = k * xs.length := by
  induction k with
  | zero => simp
  | succ k ih => rw [List.replicate_succ, List.flatten_cons, List.length_append, ih, Nat.succ_mul, Nat.add_comm]
theorem op_rep : OpR X (binaryOp .Mult) rRep := by
  intro pins s σ H x y v u Q I rx ry h
  obtain ⟨l, k, xs, rfl, rfl, hH, h1, h2, hz, q⟩ := h
  cases rx
  obtain ⟨t, rfl⟩ := ry
  obtain ⟨z, its, n, r, hl, e⟩ := I.lstM hH
  have hlen : its.toArray.size * k.toNat ≤ sizeLine := by rw [List.size_toArray, ← hl]; exact hz
  have hcap : ¬ its.toArray.size * k.toNat > (2 ^ 63 - 1) / 8 := by
    have : (sizeLine : Nat) ≤ (2 ^ 63 - 1) / 8 := by decide
    omega
  have hfit : ¬ (!Builtin.List.listFitsIndex k) = true := by
    rw [fitsIndex_both h1 h2]
    exact Bool.false_ne_true
  have hlong : ¬ Builtin.List.listTooLong (its.toArray.size * k.toNat) = true := by
    rw [notLongL hlen]
    exact Bool.false_ne_true
  have hnew : List.foldl (fun x1 x2 => x1 ++ x2) #[] (List.replicate (if its.toArray.isEmpty = true then 0 else k.toNat) its.toArray) = (List.replicate k.toNat its).flatten.toArray := by
    have f0 : ∀ m : Nat, List.foldl (fun x1 x2 => x1 ++ x2) #[] (List.replicate m its.toArray) = (List.replicate m its).flatten.toArray := fun m => by
      have := foldl_rep its m []
      rw [List.nil_append] at this
      exact this
    rw [f0]
    cases its with
    | nil => simp
    | cons a r' => rw [if_neg (by simp)]
  refine wpAny_binaryOp_repeat_ref (T := "list") (U := "int") (by decide) ⟨_, e, rfl⟩ (fun s' => typeIs_int s' k t) noFill_list_mul F.fills_int_mul F.slot_int_rmul repeat_list F.slot_int_index.lookup
    (call_meets F.slot_int_rmul (typeIs_int s k t) F.entry_int_rmul (F.args_int_rmul_2 _ _) (int___rmul___int_list k t l its.toArray n)
      ⟨e, rfl, ⟨_, e, rfl⟩, call_meets F.slot_list_mul ⟨_, e, rfl⟩ F.entry_list_mul (F.args_list_mul_2 _ _) (AutoListH.list___mul___list_int_3 l its.toArray n k t hfit hcap hlong) ⟨e, ?_⟩⟩)
  rw [hnew]
  exact ⟨.ref _, _, I.lnew (t' := s.toks) (r.rep k.toNat) (by rw [len_rep, Nat.mul_comm]; exact hz), rfl, q _ I.fresh⟩
end
section
variable {prog : Program} {w : World} {A : Around} {E : Value → Shared → Prop} {s : Shared}
set_option maxRecDepth 100000 in
end
section
variable {X : Cx}
end
end L2
namespace L2
open PySem PySem.Spec PyProof.Rows
theorem Vals.ints : ∀ {ns : List Int} {us : List Value}, Vals (ns.map V.int) us → IntsAre us ns
  | [], us, h => by
    rw [List.map_nil] at h
    cases h
    exact IntsAre.nil
  | n :: ns, us, h => by
    rw [List.map_cons] at h
    cases h with
    | cons r t =>
      obtain ⟨k, rfl⟩ := r
      exact IntsAre.cons n k (Vals.ints t)
theorem vals_of_ints : ∀ {us : List Value} {ns : List Int}, IntsAre us ns → Vals (ns.map V.int) us
  | _, _, .nil => by rw [List.map_nil]; exact Paired.nil
  | _, _, .cons n t h => by rw [List.map_cons]; exact Paired.cons (show RelV (V.int n) (Value.int n t) from ⟨t, rfl⟩) (vals_of_ints h)
theorem Vals.ref1 {a : Addr} {us : List Value} (r : Vals [V.ref a] us) : us = [Value.ref a] := by
  cases r with
  | cons r t =>
    cases t
    cases r
    rfl
section
variable {prog : Program} {w : World} {A : Around} {E : Value → Shared → Prop} {s : Shared} {l : Addr} {its : List Value} {ns : List Int} {Q : Value → Shared → Prop}
theorem sum_raw (hh : A.handled = none) (hl : s.heap.IsList l its.toArray) (hi : IntsAre its ns)
    (h : ∀ h' tk t', (∀ b o, s.heap.get? b = some o → h'.get? b = some o) → Q (.int ns.sum t') { s with heap := h', toks := tk }) : wpAny (model prog w) A (call (.builtin "sum") [.ref l]) Q E s := by
  obtain ⟨xs, e⟩ := hi.allInts.items
  have hn : numsOf (intItems xs).toList = ns := by rw [← e]; exact hi.numsOf
  rw [nums_intItems] at hn
  rw [e] at hl
  refine PySem.sum_intListG hh hl fun h' tk t' hk => ?_
  have := h h' tk t' hk
  rw [preSum_eq, List.take_of_length_le (by simp), hn]; exact this
theorem max_raw (hh : A.handled = none) (hl : s.heap.IsList l its.toArray) (hi : IntsAre its ns) (hne : 0 < ns.length)
    (h : ∀ h' tk M t', (∀ b o, s.heap.get? b = some o → h'.get? b = some o) → M ∈ ns → (∀ a, a ∈ ns → a ≤ M) → Q (.int M t') { s with heap := h', toks := tk }) : wpAny (model prog w) A (call (.builtin "max") [.ref l]) Q E s := by
  obtain ⟨xs, e⟩ := hi.allInts.items
  have hn : numsOf (intItems xs).toList = ns := by rw [← e]; exact hi.numsOf
  rw [nums_intItems] at hn
  subst hn
  rw [e] at hl
  have hsz : 0 < xs.size := by simpa using hne
  refine PySem.max_intList hh hl hsz fun v h' tk hv hk => ?_
  obtain ⟨t, rfl⟩ := intItems_at hv
  obtain ⟨h1, h2⟩ := argBest_gt (numAt xs) (xs.size - 1)
  refine h h' tk _ t hk ?_ fun a ha => ?_
  · rw [numAt_eq]; exact PySem.getD_mem (by rw [List.length_map, Array.length_toList]; omega)
  · obtain ⟨j, hj, rfl⟩ := mem_getD ha
    rw [List.length_map, Array.length_toList] at hj
    rw [← numAt_eq]; exact h2 j (by omega)
theorem min_raw (hh : A.handled = none) (hl : s.heap.IsList l its.toArray) (hi : IntsAre its ns) (hne : 0 < ns.length)
    (h : ∀ h' tk M t', (∀ b o, s.heap.get? b = some o → h'.get? b = some o) → M ∈ ns → (∀ a, a ∈ ns → M ≤ a) → Q (.int M t') { s with heap := h', toks := tk }) : wpAny (model prog w) A (call (.builtin "min") [.ref l]) Q E s := by
  obtain ⟨xs, e⟩ := hi.allInts.items
  have hn : numsOf (intItems xs).toList = ns := by rw [← e]; exact hi.numsOf
  rw [nums_intItems] at hn
  subst hn
  rw [e] at hl
  have hsz : 0 < xs.size := by simpa using hne
  refine PySem.min_intList hh hl hsz fun v h' tk hv hk => ?_
  obtain ⟨t, rfl⟩ := intItems_at hv
  obtain ⟨h1, h2⟩ := argBest_lt (numAt xs) (xs.size - 1)
  refine h h' tk _ t hk ?_ fun a ha => ?_
  · rw [numAt_eq]; exact PySem.getD_mem (by rw [List.length_map, Array.length_toList]; omega)
  · obtain ⟨j, hj, rfl⟩ := mem_getD ha
    rw [List.length_map, Array.length_toList] at hj
    rw [← numAt_eq]; exact h2 j (by omega)
end
section
variable {X : Cx}
def rSum (K : PySem.W.Frag) : List V → Hp → VK → Prop := fun vs H Q => ∃ (a : Addr) (ns : List Int), vs = [V.ref a] ∧ SqL K H a (ns.map V.int) ∧ Q (.int ns.sum) H
def rMax (K : PySem.W.Frag) : List V → Hp → VK → Prop := fun vs H Q => ∃ (a : Addr) (ns : List Int), vs = [V.ref a] ∧ SqL K H a (ns.map V.int) ∧ 0 < ns.length ∧ ∀ m, m ∈ ns → (∀ y, y ∈ ns → y ≤ m) → Q (.int m) H
def rMin (K : PySem.W.Frag) : List V → Hp → VK → Prop := fun vs H Q => ∃ (a : Addr) (ns : List Int), vs = [V.ref a] ∧ SqL K H a (ns.map V.int) ∧ 0 < ns.length ∧ ∀ m, m ∈ ns → (∀ y, y ∈ ns → m ≤ y) → Q (.int m) H
theorem cr_sum (hc : X.calm = true) : CallR X (.builtin "sum") (rSum X.K) := by
  intro pins s σ H vs us Q I r h
  obtain ⟨a, ns, rfl, hs, q⟩ := h
  obtain ⟨its, rv, hl, _⟩ := I.list hs
  rw [Vals.ref1 r]
  exact sum_raw (I.ok.hd hc) hl.isList rv.ints fun h' tk t' hk => ⟨.int _, H, I.kept hk, ⟨_, rfl⟩, q⟩
theorem cr_max (hc : X.calm = true) : CallR X (.builtin "max") (rMax X.K) := by
  intro pins s σ H vs us Q I r h
  obtain ⟨a, ns, rfl, hs, hne, q⟩ := h
  obtain ⟨its, rv, hl, _⟩ := I.list hs
  rw [Vals.ref1 r]
  exact max_raw (I.ok.hd hc) hl.isList rv.ints hne fun h' tk m t' hk h1 h2 => ⟨.int _, H, I.kept hk, ⟨_, rfl⟩, q m h1 h2⟩
theorem cr_min (hc : X.calm = true) : CallR X (.builtin "min") (rMin X.K) := by
  intro pins s σ H vs us Q I r h
  obtain ⟨a, ns, rfl, hs, hne, q⟩ := h
  obtain ⟨its, rv, hl, _⟩ := I.list hs
  rw [Vals.ref1 r]
  exact min_raw (I.ok.hd hc) hl.isList rv.ints hne fun h' tk m t' hk h1 h2 => ⟨.int _, H, I.kept hk, ⟨_, rfl⟩, q m h1 h2⟩
theorem small64 {n : Nat} (h : n < 64) : n ≤ sizeLine := by rw [sizeLine_eq]; omega
end
section
variable {X : Cx}
def rIndex (K : PySem.W.Frag) : V → List V → Hp → VK → Prop := fun x xs H Q => ∃ (a : Addr) (ys : List V) (y : V) (j : Nat) (z : V), x = V.ref a ∧ xs = [y] ∧ SqL K H a ys ∧ flatV y = true ∧ ys.all flatV = true ∧ ys[j]? = some z ∧ eqV z y = true ∧
  (∀ (m : Nat) (z' : V), m < j → ys[m]? = some z' → eqV z' y = false) ∧ Q (.int (j : Nat)) H
theorem flat_at {ys : List V} (f : ys.all flatV = true) {j : Nat} {z : V} (h : ys[j]? = some z) : flatV z = true := List.all_eq_true.mp f z (List.mem_of_getElem? h)
theorem mt_index : MtR X "list.index" (rIndex X.K) := by
  intro pins s σ H x xs v us Q I rx rxs h
  obtain ⟨a, ys, y, j, z, rfl, rfl, hs, fy, fys, hz, hzj, hno, q⟩ := h
  cases rx
  cases rxs with
  | cons ry rt =>
    rename_i uy ut
    cases rt
    obtain ⟨its, rv, ⟨⟨cls, dd, data, sl⟩, n, ho, hc, hdn, hd⟩, hlen⟩ := I.list hs
    simp only at hc hd
    subst hc hd
    obtain ⟨u, hu, ru⟩ := rv.get hz
    obtain ⟨hjl, hje⟩ := List.getElem?_eq_some_iff.mp hu
    have hvl := rv.length
    have hj : j < its.toArray.size := by simpa using hjl
    have hsl := sizeLine_eq
    refine call_meets PySem.F.slot_list_index ⟨_, ho, rfl⟩ PySem.F.entry_list_index (PySem.F.args_list_index_2 _ _)
      (SeqAt.list_indexAt a its.toArray n dd sl uy (eqU y) j hj (by omega) ?_ ?_) ⟨ho, fun u' hu' => mem_eqAt ry fy rv fys u' (by simpa using hu'), ?_⟩
    · have e1 : its.toArray[j] = u := by simpa using hje
      rw [e1, eqU_of ru (flat_at fys hz)]
      exact hzj
    · intro m hm hmj
      have hml : m < its.length := by simpa using hm
      have hmy : m < ys.length := by omega
      have hy' : ys[m]? = some ys[m] := List.getElem?_eq_getElem hmy
      obtain ⟨u2, hu2, ru2⟩ := rv.get hy'
      obtain ⟨_, hme⟩ := List.getElem?_eq_some_iff.mp hu2
      have e1 : its.toArray[m] = u2 := by simpa using hme
      rw [e1, eqU_of ru2 (flat_at fys hy')]
      exact hno m _ hmj hy'
    · exact ⟨.int (j : Nat), H, I.tok _, ⟨_, rfl⟩, q⟩
end
section
variable {X : Cx}
end
section
variable {X : Cx}
end
mutual
inductive Dp (K : PySem.W.Frag) (H : Hp) : V → PyData → Prop
  | non : Dp K H .non .none
  | bl (b : Bool) : Dp K H (.bl b) (.bool b)
  | int (i : Int) : Dp K H (.int i) (.int i)
  | str (x : Str) : Dp K H (.str x) (.str x)
  | lst {a : Addr} {xs : List V} {ds : List PyData} : SqL K H a xs → DpAll K H xs ds → Dp K H (.ref a) (.list ds)
  | tup {a : Addr} {xs : List V} {ds : List PyData} : SqT K H a xs → DpAll K H xs ds → Dp K H (.ref a) (.tuple ds)
inductive DpAll (K : PySem.W.Frag) (H : Hp) : List V → List PyData → Prop
  | nil : DpAll K H [] []
  | cons {v : V} {vs : List V} {d : PyData} {ds : List PyData} : Dp K H v d → DpAll K H vs ds → DpAll K H (v :: vs) (d :: ds)
end
section
variable {X : Cx} {pins : List (Addr × Obj)} {σ : St} {H : Hp} {s : Shared}
mutual
theorem Dp.reads (I : Inv X pins σ H s) : ∀ (d : PyData) (v : V) (u : Value), Dp X.K H v d → RelV v u → ∃ as, Reads s.heap u d as
  | .none, _, _, h, r => by
    cases h
    cases r
    exact ⟨_, Reads.none⟩
  | .bool b, _, _, h, r => by
    cases h
    cases r
    exact ⟨_, Reads.bool b⟩
  | .int i, _, _, h, r => by
    cases h
    obtain ⟨t, rfl⟩ := r
    exact ⟨_, Reads.int i t⟩
  | .str x, _, _, h, r => by
    cases h
    obtain ⟨t, rfl⟩ := r
    exact ⟨_, Reads.str x t⟩
  | .list ds, _, _, h, r => by
    cases h with
    | lst hs ha =>
      cases r
      obtain ⟨its, rv, ⟨o, n, ho, hc, _, hd⟩, _⟩ := I.list hs
      obtain ⟨as, hr⟩ := Dp.readsAll I ds _ its ha rv
      exact ⟨_, Reads.list ho hc hd hr⟩
  | .tuple ds, _, _, h, r => by
    cases h with
    | tup hs ha =>
      cases r
      obtain ⟨its, rv, ⟨o, ho, hc, n, hd⟩, _⟩ := I.tuple hs
      obtain ⟨as, hr⟩ := Dp.readsAll I ds _ its ha rv
      exact ⟨_, Reads.tuple ho hc hd hr⟩
  | .dict _, _, _, h, _ => by cases h
theorem Dp.readsAll (I : Inv X pins σ H s) : ∀ (ds : List PyData) (vs : List V) (us : List Value), DpAll X.K H vs ds → Vals vs us → ∃ as, ReadsAll s.heap us ds as
  | [], _, _, h, r => by
    cases h
    cases r
    exact ⟨_, ReadsAll.nil⟩
  | d :: ds, _, _, h, r => by
    cases h with
    | cons h1 h2 =>
      cases r with
      | cons r1 r2 =>
        obtain ⟨as, q1⟩ := Dp.reads I d _ _ h1 r1
        obtain ⟨bs, q2⟩ := Dp.readsAll I ds _ _ h2 r2
        exact ⟨_, ReadsAll.cons q1 q2⟩
end
end
section
variable {X : Cx}
end
end L2
namespace L2
open PySem PySem.Spec PyProof.Rows
abbrev CellAt (h : Heap) (c : Addr) (v : Option Value) : Prop := h.IsCell c v
def relS (scope sc : Scope) : Scope :=
  { scope with names := scope.names.map fun (n, k) => if (k == .free && sc.kind == .function && sc.names.lookup n == some .cell) then (n, .cell) else (n, k) }
def cloFrom (cells : List (Str × Addr)) : List (Str × NameKind) → List (Str × Addr) → List (Str × Addr)
  | [], acc => acc
  | (n, k) :: r, acc => if k == .free then cloFrom cells r ((n, (cells.lookup n).getD 0) :: acc) else cloFrom cells r acc
theorem closure_loop (env : Env) (f : Str × NameKind → List (Str × Addr) → Sem (ForInStep (List (Str × Addr))))
    (hf : ∀ n k c, f (n, k) c = if k == .free then (do let a ← cellOf env n; pure (.yield ((n, a) :: c))) else pure (.yield c)) :
    ∀ (names : List (Str × NameKind)) (acc : List (Str × Addr)), (∀ y ∈ names, y.2 = .free → ∃ c, env.cells.lookup y.1 = some c) → forIn names acc f = pure (cloFrom env.cells names acc)
  | [], acc, _ => by rw [List.forIn_nil]; rfl
  | (n, k) :: r, acc, h => by
    rw [List.forIn_cons, hf]
    have ih := fun acc => closure_loop env f hf r acc fun y hy => h y (List.mem_cons_of_mem _ hy)
    unfold cloFrom
    by_cases hk : (k == NameKind.free) = true
    · rw [if_pos hk, if_pos hk]
      obtain ⟨c, hc⟩ := h (n, k) List.mem_cons_self (by simpa using hk)
      have e : cellOf env n = pure c := by unfold cellOf; rw [hc]
      rw [e]
      have e2 : (env.cells.lookup n).getD 0 = c := by rw [hc]; rfl
      rw [e2]
      exact ih _
    · rw [if_neg hk, if_neg hk]
      exact ih _
theorem closure_ok {scope : Scope} {env : Env} (h : ∀ y ∈ scope.names, y.2 = .free → ∃ c, env.cells.lookup y.1 = some c) : closureFor scope env = pure (cloFrom env.cells scope.names []) := by
  simp only [closureFor]
  rw [closure_loop env _ (fun n k c => rfl) scope.names [] h]
  rfl
theorem mem_lookup {α : Type} : ∀ {l : List (Str × α)} {n : Str} {c : α}, (n, c) ∈ l → ∃ c', l.lookup n = some c'
  | (k, v) :: r, n, c, h => by
    rw [List.lookup_cons]
    cases hb : n == k with
    | true => exact ⟨_, rfl⟩
    | false =>
      rcases List.mem_cons.mp h with e | h
      · cases e; simp at hb
      · exact mem_lookup h
theorem cloFrom_mem {cells : List (Str × Addr)} : ∀ {names : List (Str × NameKind)} {acc : List (Str × Addr)} {n : Str} {c : Addr}, (n, c) ∈ cloFrom cells names acc → (n, c) ∈ acc ∨ ((n, .free) ∈ names ∧ c = (cells.lookup n).getD 0)
  | [], _, _, _, h => .inl h
  | (m, k) :: r, acc, n, c, h => by
    unfold cloFrom at h
    split at h
    · rename_i hk
      have hk : k = .free := by simpa using hk
      rcases cloFrom_mem h with h | ⟨h1, h2⟩
      · rcases List.mem_cons.mp h with e | h
        · cases e; exact .inr ⟨hk ▸ List.mem_cons_self, rfl⟩
        · exact .inl h
      · exact .inr ⟨List.mem_cons_of_mem _ h1, h2⟩
    · rcases cloFrom_mem h with h | ⟨h1, h2⟩
      · exact .inl h
      · exact .inr ⟨List.mem_cons_of_mem _ h1, h2⟩
theorem cloFrom_acc {cells : List (Str × Addr)} : ∀ {names : List (Str × NameKind)} {acc : List (Str × Addr)} {p : Str × Addr}, p ∈ acc → p ∈ cloFrom cells names acc
  | [], _, _, h => h
  | (m, k) :: r, acc, p, h => by
    unfold cloFrom
    split
    · exact cloFrom_acc (List.mem_cons_of_mem _ h)
    · exact cloFrom_acc h
theorem cloFrom_has {cells : List (Str × Addr)} : ∀ {names : List (Str × NameKind)} {acc : List (Str × Addr)} {n : Str}, (n, .free) ∈ names → (n, (cells.lookup n).getD 0) ∈ cloFrom cells names acc
  | (m, k) :: r, acc, n, h => by
    unfold cloFrom
    rcases List.mem_cons.mp h with e | h
    · cases e
      exact cloFrom_acc List.mem_cons_self
    · split
      · exact cloFrom_has h
      · exact cloFrom_has h
theorem cells_mem : ∀ {names : List (Str × NameKind)} {h : Heap} {acc : List (Str × Addr)} {x : Str} {c : Addr}, (x, c) ∈ cellsFrom h.objs.size names acc →
    (x, c) ∈ acc ∨ ((x, .cell) ∈ names ∧ h.objs.size ≤ c ∧ CellAt (pushCells h names) c none)
  | [], _, _, _, _, h => .inl h
  | (n, k) :: r, h, acc, x, c, hm => by
    unfold cellsFrom at hm
    unfold pushCells
    split at hm
    · rename_i hk
      rw [if_pos hk]
      have hk : k = .cell := by simpa using hk
      rw [← Heap.size_push h { cls := .type "cell", data := .cell none }] at hm
      rcases cells_mem hm with hm | ⟨h1, h2, h3⟩
      · rcases List.mem_cons.mp hm with e | hm
        · cases e
          exact .inr ⟨hk ▸ List.mem_cons_self, Nat.le_refl _, _, pushCells_keeps r _ _ _ (Heap.get?_push_size _ rfl), rfl⟩
        · exact .inl hm
      · rw [Heap.size_push] at h2
        exact .inr ⟨List.mem_cons_of_mem _ h1, Nat.le_of_succ_le h2, h3⟩
    · rename_i hk
      rw [if_neg hk]
      rcases cells_mem hm with hm | ⟨h1, h2, h3⟩
      · exact .inl hm
      · exact .inr ⟨List.mem_cons_of_mem _ h1, h2, h3⟩
theorem cells_acc : ∀ {names : List (Str × NameKind)} {n : Nat} {acc : List (Str × Addr)} {p : Str × Addr}, p ∈ acc → p ∈ cellsFrom n names acc
  | [], _, _, _, h => h
  | (m, k) :: r, n, acc, p, h => by
    unfold cellsFrom
    split
    · exact cells_acc (List.mem_cons_of_mem _ h)
    · exact cells_acc h
theorem cells_has : ∀ {names : List (Str × NameKind)} {n : Nat} {acc : List (Str × Addr)} {x : Str}, (x, .cell) ∈ names → ∃ c, (x, c) ∈ cellsFrom n names acc
  | (m, k) :: r, n, acc, x, h => by
    unfold cellsFrom
    rcases List.mem_cons.mp h with e | h
    · cases e
      exact ⟨n, cells_acc List.mem_cons_self⟩
    · split
      · exact cells_has h
      · exact cells_has h
theorem cells_inj : ∀ {names : List (Str × NameKind)} {h : Heap} {acc : List (Str × Addr)} {x y : Str} {c : Addr}, (∀ p ∈ acc, p.2 < h.objs.size) → (∀ x y c, (x, c) ∈ acc → (y, c) ∈ acc → x = y) →
    (x, c) ∈ cellsFrom h.objs.size names acc → (y, c) ∈ cellsFrom h.objs.size names acc → x = y
  | [], _, _, _, _, _, _, hi, h1, h2 => hi _ _ _ h1 h2
  | (n, k) :: r, h, acc, x, y, c, hl, hi, h1, h2 => by
    unfold cellsFrom at h1 h2
    split at h1
    · rename_i hk
      rw [if_pos hk] at h2
      rw [← Heap.size_push h { cls := .type "cell", data := .cell none }] at h1 h2
      refine cells_inj (h := h.push _) (fun p hp => ?_) (fun x y c a b => ?_) h1 h2
      · rw [Heap.size_push]
        rcases List.mem_cons.mp hp with rfl | hp
        · exact Nat.lt_succ_self _
        · exact Nat.lt_succ_of_lt (hl p hp)
      · rcases List.mem_cons.mp a with e | a <;> rcases List.mem_cons.mp b with e' | b
        · cases e; cases e'; rfl
        · cases e; exact absurd (hl _ b) (Nat.lt_irrefl _)
        · cases e'; exact absurd (hl _ a) (Nat.lt_irrefl _)
        · exact hi _ _ _ a b
    · rename_i hk
      rw [if_neg hk] at h2
      exact cells_inj hl hi h1 h2
theorem newEnv_comp {M : Model} {A : Around} {E : Value → Shared → Prop} {s : Shared} {scope : Scope} {globals : Addr} {closure : List (Str × Addr)} {qual : Str} {func : Option Addr} {code : Value} {around : Env} {builtins : Addr} {Q : Env → Shared → Prop}
    (h : Q (newEnv scope s.heap.objs.size globals (cellsFrom (s.heap.objs.size + 1) scope.names closure) qual func code (some around) builtins)
      { s with heap := pushCells (s.heap.push { cls := .type "dict", data := .dict #[] }) scope.names }) :
    wpAny M A (newFunctionEnv scope globals closure [] qual func code (some around) builtins) Q E s := by
  simp only [newFunctionEnv, Option.isSome_some, if_true]
  refine wpAny_bind (wpAny_alloc ?_)
  refine wpAny_bind (wpAny_layCells _ (fun n k c => rfl) scope.names closure _ _ ?_)
  rw [show ({ s with heap := s.heap.push { cls := .type "dict", data := .dict #[] } } : Shared).heap.objs.size = s.heap.objs.size + 1 from Heap.size_push ..]
  rw [List.forIn_nil]
  exact wpAny_bind (wpAny_pure (wpAny_pure h))
theorem lookup_relS {sc : Scope} : ∀ {names : List (Str × NameKind)} {x : Str} {k : NameKind},
    (names.map fun (n, k) => if (k == NameKind.free && sc.kind == .function && sc.names.lookup n == some .cell) then (n, NameKind.cell) else (n, k)).lookup x = some k →
    ∃ k', names.lookup x = some k' ∧ (k = k' ∨ (k' = .free ∧ k = .cell))
  | [], _, _, h => by simp at h
  | (n, k₀) :: r, x, k, h => by
    have ih := @lookup_relS sc r x k
    have h' : List.lookup x ((if (k₀ == NameKind.free && sc.kind == .function && sc.names.lookup n == some .cell) = true then (n, NameKind.cell) else (n, k₀)) :: (r.map _)) = some k := h
    cases hx : x == n with
    | true =>
      simp only [List.lookup_cons, hx]
      by_cases hc : (k₀ == NameKind.free && sc.kind == .function && sc.names.lookup n == some .cell) = true
      · rw [if_pos hc] at h'
        simp only [List.lookup_cons, hx] at h'
        cases h'
        simp only [Bool.and_eq_true, beq_iff_eq] at hc
        exact ⟨k₀, rfl, .inr ⟨hc.1.1, rfl⟩⟩
      · rw [if_neg hc] at h'
        simp only [List.lookup_cons, hx] at h'
        cases h'
        exact ⟨_, rfl, .inl rfl⟩
    | false =>
      simp only [List.lookup_cons, hx]
      by_cases hc : (k₀ == NameKind.free && sc.kind == .function && sc.names.lookup n == some .cell) = true
      · rw [if_pos hc] at h'
        simp only [List.lookup_cons, hx] at h'
        exact ih h'
      · rw [if_neg hc] at h'
        simp only [List.lookup_cons, hx] at h'
        exact ih h'
structure BlkOk (N : List Str) (sc scope : Scope) (own : List (Str × Nat)) : Prop where
  kind : scope.kind = .function
  uniq : ∀ y ∈ scope.names, scope.names.lookup y.1 = some y.2
  ix : ∀ p ∈ own, N[p.2]? = some p.1
  free : ∀ y ∈ scope.names, y.2 = .free → sc.names.lookup y.1 = some .cell ∨ sc.names.lookup y.1 = some .free
  own : ∀ y ∈ scope.names, y.2 = .local ∨ y.2 = .cell → y.1 ∈ own.map (·.1) ∨ y.1 ∉ N
def wipe (σ : St) : List Nat → St
  | [] => σ
  | v :: vs => (wipe σ vs).set v none
theorem wipe_length (σ : St) : ∀ vs : List Nat, (wipe σ vs).length = σ.length
  | [] => rfl
  | v :: vs => by unfold wipe; rw [List.length_set, wipe_length σ vs]
theorem wipe_some {σ : St} {i : Nat} {x : V} : ∀ {vs : List Nat}, (wipe σ vs)[i]? = some (some x) → σ[i]? = some (some x) ∧ i ∉ vs
  | [], h => ⟨h, by simp⟩
  | v :: vs, h => by
    unfold wipe at h
    by_cases hi : v = i
    · subst hi
      by_cases hv : v < (wipe σ vs).length
      · rw [List.getElem?_set_self hv] at h; cases h
      · rw [List.getElem?_eq_none (by simpa using hv)] at h; cases h
    · rw [List.getElem?_set_ne hi] at h
      obtain ⟨h1, h2⟩ := wipe_some h
      exact ⟨h1, by simp only [List.mem_cons, not_or]; exact ⟨fun e => hi e.symm, h2⟩⟩
abbrev Cx.blk (X : Cx) (s : Shared) (H : Hp) (scope : Scope) (cenv : Env) (fp : List Addr) : Cx := { X with s_0 := s, H_0 := H, env := cenv, outer := X.stack, ex := fp, fn := fun x => scope.names.lookup x == some .cell, pn := [], xe := fun _ _ => False }
section
variable {X : Cx} {pins : List (Addr × Obj)} {σ : St} {H : Hp} {s : Shared}
theorem block_start {scope : Scope} {own : List (Str × Nat)} {fp : List Addr} (I : Inv X pins σ H s) (ok : BlkOk X.N X.env.scope scope own) (hN : X.N.Nodup) (hfp : ∀ b ∈ fp, FpOk X pins H b ∧ b < s.heap.objs.size) :
    Inv (X.blk s H scope (compEnvC scope (cellsFrom (s.heap.objs.size + 1) scope.names (cloFrom X.env.cells scope.names [])) s.heap.objs.size X.env) fp) [] (wipe σ (own.map (·.2))) H { s with heap := pushCells (s.heap.push { cls := .type "dict", data := .dict #[] }) scope.names } := by
  have hfree : ∀ y ∈ scope.names, y.2 = .free → ∃ c, X.env.cells.lookup y.1 = some c := fun y hy e => by
    rcases ok.free y hy e with k | k
    · exact I.ok.has _ (.inl k)
    · exact I.ok.has _ (.inr k)
  generalize hcenv : compEnvC scope (cellsFrom (s.heap.objs.size + 1) scope.names (cloFrom X.env.cells scope.names [])) s.heap.objs.size X.env = cenv
  have kp : ∀ b o, s.heap.get? b = some o → (pushCells (s.heap.push { cls := .type "dict", data := .dict #[] }) scope.names).get? b = some o := fun b o e => pushCells_keeps _ _ _ _ (Heap.get?_push_of_some _ e)
  have hL : cenv.locals = s.heap.objs.size := by rw [← hcenv]; rfl
  have hcl : cenv.cells = cellsFrom (s.heap.objs.size + 1) scope.names (cloFrom X.env.cells scope.names []) := by rw [← hcenv]; rfl
  have hsc : cenv.scope = relS scope X.env.scope := by rw [← hcenv]; rfl
  rw [← Heap.size_push s.heap { cls := .type "dict", data := .dict #[] }] at hcl
  have cm : ∀ {y c}, (y, c) ∈ cloFrom X.env.cells scope.names [] → X.env.cells.lookup y = some c ∧ c < s.heap.objs.size := fun {y c} hm => by
    rcases cloFrom_mem hm with hm | ⟨h1, rfl⟩
    · cases hm
    · obtain ⟨c, hc⟩ := hfree _ h1 rfl
      rw [hc]
      obtain ⟨w, z⟩ := I.cell _ _ hc
      exact ⟨rfl, z.lt⟩
  have mem : ∀ {y c}, cenv.cells.lookup y = some c → (X.env.cells.lookup y = some c ∧ c < s.heap.objs.size) ∨ (s.heap.objs.size + 1 ≤ c ∧ CellAt (pushCells (s.heap.push { cls := .type "dict", data := .dict #[] }) scope.names) c none) := fun {y c} e => by
    rw [hcl] at e
    rcases cells_mem (PySem.mem_of_lookup e) with hm | ⟨_, h2, h3⟩
    · exact .inl (cm hm)
    · rw [Heap.size_push] at h2; exact .inr ⟨h2, h3⟩
  have look : ∀ {y}, scope.names.lookup y = some .free → ∃ c, cenv.cells.lookup y = some c ∧ X.env.cells.lookup y = some c := fun {y} hl => by
    have hy : (y, NameKind.free) ∈ scope.names := PySem.mem_of_lookup hl
    obtain ⟨c', e'⟩ := mem_lookup (cells_acc (names := scope.names) (n := (s.heap.push { cls := .type "dict", data := .dict #[] }).objs.size) (cloFrom_has (cells := X.env.cells) (acc := []) hy))
    rw [← hcl] at e'
    refine ⟨c', e', ?_⟩
    rw [hcl] at e'
    rcases cells_mem (PySem.mem_of_lookup e') with hm | ⟨h1, _, _⟩
    · exact (cm hm).1
    · have := ok.uniq _ h1
      rw [hl] at this; cases this
  have okB : (X.blk s H scope cenv fp).Ok := by
    refine ⟨I.ok.mod, by show cenv.scope.kind = _; rw [hsc]; exact ok.kind, by show cenv.globals = _; rw [← hcenv]; exact I.ok.glob, by show cenv.builtins = _; rw [← hcenv]; exact I.ok.blt, by show s.heap.objs.size ≤ cenv.locals; rw [hL]; exact Nat.le_refl _,
      fun y z c e1 e2 => ?_, fun y hy => ?_, fun y c z e => ?_, I.ok.hd, I.ok.frames, .inl rfl, fun b hb => ⟨?_, fun y c e z => ?_⟩, I.bs, Nat.le_trans I.ok.bsz I.sz, fun b o e hb => ?_, fun b hb z => ?_, I.stack, I.stkFree⟩
    · have e1 : cenv.cells.lookup y = some c := e1
      have e2 : cenv.cells.lookup z = some c := e2
      rw [hcl] at e1 e2
      refine cells_inj (fun p hp => ?_) (fun y z c a b => I.ok.inj y z c (cm a).1 (cm b).1) (PySem.mem_of_lookup e1) (PySem.mem_of_lookup e2)
      rw [Heap.size_push]
      exact Nat.lt_succ_of_lt (cm (y := p.1) (c := p.2) hp).2
    · show ∃ c, cenv.cells.lookup y = some c
      have key : ∀ k, cenv.kindOf y = some k → (k = .cell ∨ k = .free) → ∃ c, cenv.cells.lookup y = some c := fun k hk hk' => by
        unfold Env.kindOf at hk
        rw [hsc] at hk
        obtain ⟨k', e, r⟩ := lookup_relS hk
        have : k' = .cell ∨ k' = .free := by
          rcases r with rfl | ⟨rfl, _⟩
          · exact hk'
          · exact .inr rfl
        rcases this with rfl | rfl
        · obtain ⟨c, hm⟩ := cells_has (n := (s.heap.push { cls := .type "dict", data := .dict #[] }).objs.size) (acc := cloFrom X.env.cells scope.names []) (PySem.mem_of_lookup e)
          obtain ⟨c', e'⟩ := mem_lookup hm
          exact ⟨c', by rw [hcl]; exact e'⟩
        · obtain ⟨c, h1, _⟩ := look e
          exact ⟨c, h1⟩
      rcases hy with hy | hy
      · exact key _ hy (.inl rfl)
      · exact key _ hy (.inr rfl)
    · have z : (scope.names.lookup y == some NameKind.cell) = true := z
      have z : scope.names.lookup y = some .cell := by simpa using z
      have e : cenv.cells.lookup y = some c := e
      rw [hcl] at e
      rcases cells_mem (PySem.mem_of_lookup e) with hm | ⟨_, h2, _⟩
      · rcases cloFrom_mem hm with hm | ⟨h1, _⟩
        · cases hm
        · have q := ok.uniq _ h1
          rw [z] at q; cases q
      · rw [Heap.size_push] at h2
        exact Nat.le_of_succ_le h2
    · show b ≠ cenv.locals
      rw [hL]; exact Nat.ne_of_lt (hfp b hb).2
    · have e : cenv.cells.lookup y = some c := e
      rcases mem e with ⟨h1, _⟩ | ⟨h1, _⟩
      · exact (hfp b hb).1.2.2.2.2.1 y c h1 z
      · have h2 : s.heap.objs.size + 1 ≤ b := by rw [← z]; exact h1
        exact absurd (Nat.lt_of_lt_of_le (hfp b hb).2 (Nat.le_of_succ_le h2)) (Nat.lt_irrefl _)
    · rcases (hfp b hb).1.2.2.2.1 with z | z
      · exact I.ok.noex b o e z
      · exact absurd (Nat.lt_of_lt_of_le (Heap.lt_size e) (Nat.le_trans I.ok.bsz z)) (Nat.lt_irrefl _)
    · rcases List.mem_cons.mp (I.stkSub b z) with z | z
      · exact (hfp b hb).1.2.1 z
      · exact (hfp b hb).1.2.2.1 z
  refine ⟨okB, rfl, I.bare, Un.kept kp, ⟨fun _ => none, ?_, fun i y av e1 e2 e3 => ?_⟩, fun y c e => ?_, ?_, fun y c e => ?_, fun p hp => ?_, I.hok.kept kp, by rw [wipe_length]; exact I.len⟩
  · show Heap.Ns _ cenv.locals _
    rw [hL]
    exact Heap.Ns.keeps (Heap.Ns.new ..) fun b o e => pushCells_keeps _ _ _ _ e
  · obtain ⟨e2, hne⟩ := wipe_some e2
    have hfr : scope.names.lookup y = some .free ∧ (cenv.kindOf y = some .cell ∨ cenv.kindOf y = some .free) := by
      have key : ∀ k, cenv.scope.names.lookup y = some k → k = .local ∨ k = .cell ∨ k = .free → scope.names.lookup y = some .free ∧ (cenv.kindOf y = some .cell ∨ cenv.kindOf y = some .free) := fun k hk hk' => by
        have hk0 := hk
        rw [hsc] at hk
        obtain ⟨k', e, r⟩ := lookup_relS hk
        have no : ¬ (k' = .local ∨ k' = .cell) := fun hh => by
          rcases ok.own _ (PySem.mem_of_lookup e) hh with e' | e'
          · obtain ⟨p, hp, hpy⟩ := List.mem_map.mp e'
            have e3 := ok.ix p hp
            have : p.1 = y := hpy
            rw [this] at e3
            exact hne (List.mem_map.mpr ⟨p, hp, nodup_ix hN e3 e1⟩)
          · exact e' (List.mem_of_getElem? e1)
        rcases r with rfl | ⟨rfl, rfl⟩
        · rcases hk' with rfl | rfl | rfl
          · exact absurd (.inl rfl) no
          · exact absurd (.inr rfl) no
          · exact ⟨e, .inr hk0⟩
        · exact ⟨e, .inl hk0⟩
      have e3 : Vis cenv.scope y := e3
      rcases e3 with e3 | e3 | e3
      · exact key _ e3 (.inl rfl)
      · exact key _ e3 (.inr (.inl rfl))
      · exact key _ e3 (.inr (.inr rfl))
    obtain ⟨m, hn, hl⟩ := I.loc
    have hvis : Vis X.env.scope y := (ok.free _ (PySem.mem_of_lookup hfr.1) rfl).elim (fun k => .inr (.inl k)) (fun k => .inr (.inr k))
    obtain ⟨w, r, q⟩ := hl i y av e1 e2 hvis
    refine ⟨w, r, .inr ⟨hfr.2, ?_⟩⟩
    obtain ⟨c, h1, h2⟩ := look hfr.1
    rcases q with ⟨k, _⟩ | ⟨_, c', e', z⟩
    · have k : X.env.scope.names.lookup y = some .local := k
      rcases ok.free _ (PySem.mem_of_lookup hfr.1) rfl with k' | k' <;> rw [show X.env.scope.names.lookup y = _ from k'] at k <;> cases k
    · rw [h2] at e'; cases e'
      exact ⟨c, h1, z.keeps kp⟩
  · have e : cenv.cells.lookup y = some c := e
    rcases mem e with ⟨h1, _⟩ | ⟨_, z⟩
    · obtain ⟨w, z⟩ := I.cell y c h1
      exact ⟨w, z.keeps kp⟩
    · exact ⟨_, z⟩
  · show H cenv.locals = none
    rw [hL]; exact I.hok.fresh (Nat.le_refl _)
  · have e : cenv.cells.lookup y = some c := e
    rcases mem e with ⟨h1, _⟩ | ⟨h1, _⟩
    · exact I.freeC y c h1
    · exact I.hok.fresh (Nat.le_of_succ_le h1)
  · exact absurd (show p ∈ ([] : List (Addr × Obj)) ++ [] from hp) (by simp)
theorem app_ok {E : Value → Shared → Prop} {D : Addr} {xs : List V} {y : V} {v : Value} {Q : Value → Shared → Prop} (I : Inv X pins σ H s) (hD : H D = some (.lst xs)) (hz : xs.length < sizeLine) (r : RelV y v)
    (h : ∀ s', Inv X pins σ (upd H D (.lst (xs ++ [y]))) s' → Q .none s') : wpAny (model X.prog X.w) X.A (call (.builtin "list.append") [.ref D, v]) Q E s := by
  obtain ⟨hz', its, n, ri, e⟩ := I.hok D _ hD
  have hl := ri.length
  refine append_at (hsz := by rw [List.size_toArray]; omega) e fun h' sb ho' => ?_
  refine h { s with heap := h' } (I.write (t' := s.toks) (by rw [hD]; trivial) (.inl rfl) (fun b u hb q => (sb.2 b hb).trans q) ⟨_, ho'⟩ ⟨by rw [List.length_append]; exact hz, its ++ [v], n + 1, ri.append (.cons r .nil), ?_⟩)
  rw [ho']
  simp
def PTs (X : Cx) (ifs : List Expr) (t : TT) : Prop :=
  ∀ (pins : List (Addr × Obj)) (s : Shared) (σ : St) (H : Hp) (Q : Bool → Hp → Prop), Inv X pins σ H s → t σ H Q →
    wpAny (model X.prog X.w) X.A (forIn ifs true fun c r => if r = true then do let ok ← isTrue c X.env (eval c X.env); pure (ForInStep.yield ok) else pure (ForInStep.yield r)) (TP X pins σ Q) X.xe s
def tYes : TT := fun _ H Q => Q true H
theorem pts_nil : PTs X [] tYes := fun _ _ _ H _ I h => wpAny_tests_nil ⟨H, I, h⟩
theorem pts_one {c : Expr} {t : TT} (h : PT X c t) : PTs X [c] t := fun pins s σ H Q I hw => wpAny_tests_one (h pins s σ H Q I hw)
end
theorem thnF {α : Type} {t : Sem α} {Q Q' : α → Shared → Prop} {M : Model} {A : Around} {E : Value → Shared → Prop} {s : Shared} (h : wpAny M A t Q (fun _ _ => False) s) (hQ : ∀ a s, Q a s → Q' a s) : wpAny M A t Q' E s := wpAny_mono h hQ fun _ _ z => False.elim z
theorem compLoop_any {prog : Program} {w : World} {A : Around} {R : Result → Shared → Prop} {s : Shared} {elt target iter : Expr} {ifs : List Expr} {scope : Scope} {pos : Pos} {it acc : Value} {env : Env} (I : Nat → Shared → Prop)
    (turn : ∀ n s, I n s → wpAny (model prog w) A (pyNext it) (fun r s₁ => match r with
      | none => R (.ok .next) s₁
      | some v => wpAny (model prog w) A (letOwnedTupleGo target it v) (fun _ s₁' => wpAny (model prog w) A (assign target env v) (fun _ s₂ =>
          wpAny (model prog w) A (forIn ifs true fun c r => if r = true then do let ok ← isTrue c env (eval c env); pure (ForInStep.yield ok) else pure (ForInStep.yield r)) (fun ok s₃ =>
            if ok = true then wpAny (model prog w) A (eval elt env) (fun x s₄ =>
              wpAny (model prog w) A (call (.builtin "list.append") [acc, x]) (fun _ s₅ => ∃ m, m < n ∧ I m s₅) (notedBy (model prog w) A env fun e s' => R (.error e) s') s₄) (notedBy (model prog w) A env fun e s' => R (.error e) s') s₃
            else ∃ m, m < n ∧ I m s₃) (notedBy (model prog w) A env fun e s' => R (.error e) s') s₂) (notedBy (model prog w) A env fun e s' => R (.error e) s') s₁') (notedBy (model prog w) A env fun e s' => R (.error e) s') s₁) (notedBy (model prog w) A env fun e s' => R (.error e) s') s)
    (n : Nat) (h : I n s) :
    codeAny (model prog w) A (.compLoop (.ListComp elt [⟨target, iter, ifs, 0⟩] scope pos) 0 it acc env) R s := by
  refine codeAny_loop rfl I (fun n s hI => ?_) n h
  show wpAny _ A ((compTurn (.ListComp elt [⟨target, iter, ifs, 0⟩] scope pos) 0 it acc env).onRaise (fun x => do noteFrame x env; theTreesLotGoes x)) _ _ s
  refine wpAny_noted ?_
  rw [compTurn_list]
  refine wpAny_bind (wpAny_standAt (wpAny_bind (wpAny_mono (turn n s hI) (fun r s₁ h₁ => ?_) fun _ _ h' => h')))
  cases r with
  | none => exact wpAny_pure h₁
  | some v =>
    refine wpAny_bind (wpAny_mono h₁ (fun _ s₁' h₁' => ?_) fun _ _ h' => h')
    refine wpAny_bind (wpAny_mono h₁' (fun _ s₂ h₂ => wpAny_bind (wpAny_mono h₂ (fun ok s₃ h₃ => ?_) fun _ _ h' => h')) fun _ _ h' => h')
    cases ok with
    | false => exact wpAny_pure ⟨rfl, h₃⟩
    | true =>
      exact wpAny_bind (wpAny_bind (wpAny_mono h₃ (fun x s₄ h₄ => wpAny_bind (wpAny_mono h₄ (fun _ s₅ h₅ => wpAny_pure (wpAny_pure ⟨rfl, h₅⟩)) fun _ _ h' => h')) fun _ _ h' => h'))
section
variable {X : Cx}
def tLc (wi : TI) (g : TG) (tt : TT) (te : TE) (vs : List Nat) : TE := fun σ H Q => wi σ H fun J H1 => ∀ D, H1 D = none → ∃ W : Nat → Nat → Hp → Prop, (∃ m, W 0 m (upd H1 D (.lst []))) ∧ ∀ i m H, W i m H →
  (J.stop i H ∧ Q (.ref D) H) ∨ (J.go i H ∧ ∃ Nx : Hp → Prop, (∀ H', Nx H' → ∃ m', m' < m ∧ W (i + 1) m' H') ∧ ∀ x H', J.yld i H x H' → g x (wipe σ vs) H' fun σ2 H2 => wipe σ2 vs = wipe σ vs ∧ tt σ2 H2 fun b H3 =>
    if b = true then te σ2 H3 fun y H4 => ∃ acc, H4 D = some (.lst acc) ∧ acc.length < sizeLine ∧ Nx (upd H4 D (.lst (acc ++ [y]))) else Nx H3)
theorem lc_core {pins : List (Addr × Obj)} {s : Shared} {σ : St} {H : Hp} {Q : VK} {elt tg iter : Expr} {ifs : List Expr} {scope : Scope} {own : List (Str × Nat)} {pos pos' : Pos} {wi : TI} {g : TG} {tt : TT} {te : TE} {use : Option (Value → Sem Unit)} {Qf : Value → Shared → Prop}
    (hc : X.calm = true) (hN : X.N.Nodup) (I : Inv X pins σ H s) (hi : PI X tg iter wi) (ok : BlkOk X.N X.env.scope scope own)
    (hg : ∀ (s : Shared) (H : Hp) (C : Addr) (cl : List (Str × Addr)) (fp : List Addr), PG (X.blk s H scope (compEnvC scope cl C X.env) fp) tg g) (ht : ∀ (s : Shared) (H : Hp) (C : Addr) (cl : List (Str × Addr)) (fp : List Addr), PTs (X.blk s H scope (compEnvC scope cl C X.env) fp) ifs tt)
    (he : ∀ (s : Shared) (H : Hp) (C : Addr) (cl : List (Str × Addr)) (fp : List Addr), PE (X.blk s H scope (compEnvC scope cl C X.env) fp) elt te) (hs : ∀ x, foldedSetIterable iter X.env x = pure x)
    (h : tLc wi g tt te (own.map (·.2)) σ H Q)
    (hRR : ∀ D C s' m H', Inv X pins σ H' s' → Q (.ref D) H' → s'.heap.Ns C m → FpOk X pins H' C → compPost (model X.prog X.w) X.A X.xe use Qf (.ref D) C (.ok .next) s') :
    wpAny (model X.prog X.w) X.A (comprehension (.ListComp elt [⟨tg, iter, ifs, 0⟩] scope pos) scope X.env pos' (newList []) false (eval iter X.env) use) Qf X.xe s := by
  have hfree : ∀ y ∈ scope.names, y.2 = .free → ∃ c, X.env.cells.lookup y.1 = some c := fun y hy e => by
    rcases ok.free y hy e with k | k
    · exact I.ok.has _ (.inl k)
    · exact I.ok.has _ (.inr k)
  refine wpAny_comprehension_free (use := use) rfl hs (closure_ok hfree) ok.kind (fun y hy e => by rw [ok.uniq y hy, e])
    (thn (hi pins s σ H _ I h) fun xv s1 hx => thn hx fun itv s2 h2 => ?_)
  obtain ⟨it, fp, tn, J, H2, e, I2, T, st2, f2, q⟩ := h2
  subst e
  refine wpAny_newObj_type (newEnv_comp ?_) (by show 0 ≤ sizeLine; decide)
  generalize hD : s2.heap.objs.size = D
  have hDn : H2 D = none := I2.hok.fresh (Nat.le_of_eq hD)
  obtain ⟨W, ⟨m0, w0⟩, turn⟩ := q D hDn
  -- the new list
  generalize hs3 : ({ s2 with heap := s2.heap.push { cls := .type "list", data := .seq ([] : List Value).toArray } } : Shared) = s3
  have I3 : Inv X pins σ (upd H2 D (.lst [])) s3 := by
    rw [← hs3]
    refine I2.laid (t' := s2.toks) (fun b o e => Heap.get?_push_of_some _ e) (Nat.le_of_eq hD) ⟨Nat.zero_le _, [], 0, .nil, ?_⟩
    rw [← hD]
    exact Heap.get?_push_size _ rfl
  have h3 : s3.heap = s2.heap.push { cls := .type "list", data := .seq ([] : List Value).toArray } := by rw [← hs3]
  have sz : ∀ b ∈ fp, b < s2.heap.objs.size := fun b hb => by
    obtain ⟨o, e, _⟩ := T.obj _ _ st2 b hb
    exact Heap.lt_size e
  have f3 : ∀ b ∈ fp, FpOk X pins (upd H2 D (.lst [])) b ∧ b < s3.heap.objs.size := fun b hb => by
    have hlt := sz b hb
    refine ⟨⟨?_, (f2 b hb).2⟩, by rw [h3, Heap.size_push]; exact Nat.lt_succ_of_lt hlt⟩
    rw [upd_ne (by rw [← hD]; exact Nat.ne_of_lt hlt)]
    exact (f2 b hb).1
  have st3 : tn 0 s3.heap := T.keep _ _ _ st2 fun b _ o e => by rw [h3]; exact Heap.get?_push_of_some _ e
  have I4 := block_start I3 ok hN f3
  have pg := hg s3 (upd H2 D (.lst [])) s3.heap.objs.size (cellsFrom (s3.heap.objs.size + 1) scope.names (cloFrom X.env.cells scope.names [])) fp
  have pt := ht s3 (upd H2 D (.lst [])) s3.heap.objs.size (cellsFrom (s3.heap.objs.size + 1) scope.names (cloFrom X.env.cells scope.names [])) fp
  have pe := he s3 (upd H2 D (.lst [])) s3.heap.objs.size (cellsFrom (s3.heap.objs.size + 1) scope.names (cloFrom X.env.cells scope.names [])) fp
  show codeAny _ _ (.compStart (.ListComp elt [⟨tg, iter, ifs, 0⟩] scope pos) 0 (.ref it) (.ref D) (compEnvC scope (cellsFrom (s3.heap.objs.size + 1) scope.names (cloFrom X.env.cells scope.names [])) s3.heap.objs.size X.env)) (compPost (model X.prog X.w) X.A X.xe use Qf (.ref D) s3.heap.objs.size) { s3 with heap := pushCells (s3.heap.push { cls := .type "dict", data := .dict #[] }) scope.names }
  have nfp : ∀ b ∈ fp, (upd H2 D (.lst [])) b = none := fun b hb => (f3 b hb).1.1
  generalize hce : compEnvC scope (cellsFrom (s3.heap.objs.size + 1) scope.names (cloFrom X.env.cells scope.names [])) s3.heap.objs.size X.env = ce at I4 pg pt pe ⊢
  have cL : ce.locals = s3.heap.objs.size := by subst hce; rfl
  generalize hH3 : upd H2 D (.lst []) = H3 at I3 I4 pg pt pe w0 nfp f3
  generalize hs4 : ({ s3 with heap := pushCells (s3.heap.push { cls := .type "dict", data := .dict #[] }) scope.names } : Shared) = s4 at I4 ⊢
  have st4 : tn 0 s4.heap := T.keep _ _ _ st3 fun b _ o e => by rw [← hs4]; exact pushCells_keeps _ _ _ _ (Heap.get?_push_of_some _ e)
  have stat : ∀ {σ' : St} {H' : Hp} {s' : Shared}, Inv (X.blk s3 H3 scope ce fp) [] σ' H' s' → (∀ b ∈ fp, H' b = none) → ∀ b ∈ fp, FpOk (X.blk s3 H3 scope ce fp) [] H' b := fun {σ' H' s'} I' hn b hb =>
    ⟨hn b hb, (I'.ok.exf b hb).1, I'.ok.exfs b hb, .inl hb, fun x c e => (I'.ok.exf b hb).2 x c e, fun p hp => absurd (show p ∈ ([] : List (Addr × Obj)) ++ [] from hp) (by simp)⟩
  have loop : codeAny (model X.prog X.w) X.A (.compLoop (.ListComp elt [⟨tg, iter, ifs, 0⟩] scope pos) 0 (.ref it) (.ref D) ce) (compPost (model X.prog X.w) X.A X.xe use Qf (.ref D) s3.heap.objs.size) s4 := by
    refine compLoop_any (fun n s' => ∃ i H', Inv (X.blk s3 H3 scope ce fp) [] (wipe σ (own.map (·.2))) H' s' ∧ tn i s'.heap ∧ (∀ b ∈ fp, H' b = none) ∧ W i n H') ?_ m0 ⟨0, H3, I4, st4, nfp, w0⟩
    rintro n s5 ⟨i, H5, I5, st5, n5, w5⟩
    rcases turn i n H5 w5 with ⟨stop, qq⟩ | ⟨go, Nx, hNx, step⟩
    · have td := T.done (X.blk s3 H3 scope ce fp) rfl rfl rfl hc i [] s5 _ H5 (fun _ _ => False) I5 (stat I5 n5) st5 stop
      refine thnF td fun r s6 ⟨hr, I6⟩ => ?_
      subst hr
      -- back in the def's context
      have I7 : Inv X pins σ H5 s6 := I3.call' (ch := fp) I6.os I6.base I6.hok I6.bare fun b hb => ⟨(f3 b hb).1.2.2.2.1, (f3 b hb).1.2.1, (f3 b hb).1.2.2.2.2.1, (f3 b hb).1.2.2.2.2.2⟩
      have nC : H5 s3.heap.objs.size = none := by
        have z : H5 ce.locals = none := I6.free
        rw [cL] at z
        exact z
      obtain ⟨m, hn, _⟩ := I6.loc
      have hn : s6.heap.Ns ce.locals m := hn
      rw [cL] at hn
      exact hRR D s3.heap.objs.size s6 m H5 I7 qq hn (I3.fpOk (Nat.le_refl _) nC)
    · have ti := T.item (X.blk s3 H3 scope ce fp) rfl rfl rfl hc i [] s5 _ H5 (fun _ _ => False) I5 (stat I5 n5) st5 go
      refine thnF ti fun r s6 ⟨u, hr, h6⟩ => ?_
      subst hr
      refine thnF h6 fun _ s7 ⟨x, H7, I7, r7, y7, st7, n7⟩ => ?_
      have I7' := I7.pinned (stat I7 n7) (T.obj _ _ st7)
      refine thnF (pg _ s7 _ H7 x u _ I7' r7 (step x H7 y7)) fun _ s8 ⟨σ8, H8, I8, hw8, q8⟩ => ?_
      refine thnF (pt _ s8 σ8 H8 _ I8 q8) fun b s9 ⟨H9, I9, q9⟩ => ?_
      -- the turn's end
      have fin : ∀ {s' : Shared} {H' : Hp}, Inv (X.blk s3 H3 scope ce fp) ([] ++ pinsAt fp s7.heap) σ8 H' s' → Nx H' → ∃ m, m < n ∧ ∃ i H', Inv (X.blk s3 H3 scope ce fp) [] (wipe σ (own.map (·.2))) H' s' ∧ tn i s'.heap ∧ (∀ b ∈ fp, H' b = none) ∧ W i m H' := fun {s' H'} I' nx => by
        obtain ⟨m', hm, w'⟩ := hNx H' nx
        have pin' : ∀ b ∈ fp, ∀ o, s7.heap.get? b = some o → s'.heap.get? b = some o ∧ H' b = none := fun b hb o e =>
          let z := I'.pin (b, o) (List.mem_append_right _ (List.mem_append_right _ (mem_pinsAt hb e)))
          ⟨z.1, z.2.1⟩
        have hl : (wipe σ (own.map (·.2))).length = σ8.length := by rw [← hw8, wipe_length]
        refine ⟨m', hm, i + 1, H', (I'.unpinned (pins := [])).weak hl (fun j v e => ?_), T.keep _ _ _ st7 fun b hb o e => (pin' b hb o e).1, fun b hb => ?_, w'⟩
        · rw [← hw8] at e
          exact (wipe_some e).1
        · obtain ⟨o, e, _⟩ := T.obj _ _ st7 b hb
          exact (pin' b hb o e).2
      cases b with
      | false =>
        simp only [Bool.false_eq_true, if_false] at q9 ⊢
        exact fin I9 q9
      | true =>
        simp only [if_true] at q9 ⊢
        refine thnF (pe _ s9 σ8 H9 _ I9 q9) fun z s10 ⟨yv, H10, I10, r10, acc, hD10, hz10, nx⟩ => ?_
        exact app_ok (X := X.blk s3 H3 scope ce fp) I10 hD10 hz10 r10 fun s11 I11 => fin I11 nx
  exact codeAny_compStart_list loop (T.self X.A 0 _ _ _ st4 loop)
theorem pe_lc {elt tg iter : Expr} {ifs : List Expr} {scope : Scope} {own : List (Str × Nat)} {pos : Pos} {wi : TI} {g : TG} {tt : TT} {te : TE} (hc : X.calm = true) (hN : X.N.Nodup) (hi : PI X tg iter wi) (ok : BlkOk X.N X.env.scope scope own)
    (hg : ∀ (s : Shared) (H : Hp) (C : Addr) (cl : List (Str × Addr)) (fp : List Addr), PG (X.blk s H scope (compEnvC scope cl C X.env) fp) tg g) (ht : ∀ (s : Shared) (H : Hp) (C : Addr) (cl : List (Str × Addr)) (fp : List Addr), PTs (X.blk s H scope (compEnvC scope cl C X.env) fp) ifs tt)
    (he : ∀ (s : Shared) (H : Hp) (C : Addr) (cl : List (Str × Addr)) (fp : List Addr), PE (X.blk s H scope (compEnvC scope cl C X.env) fp) elt te) (hs : ∀ x, foldedSetIterable iter X.env x = pure x := by intro _; rfl) :
    PE X (.ListComp elt [⟨tg, iter, ifs, 0⟩] scope pos) (tLc wi g tt te (own.map (·.2))) := by
  intro pins s σ H Q I h
  rw [eval_ListComp]
  refine lc_core hc hN I hi ok hg ht he hs h fun D C s' m H' I' q hn f => ⟨m, hn, fun h'' sb => ?_⟩
  obtain ⟨f0, f1, f2, f3, f4, f5⟩ := f
  exact ⟨.ref D, H', I'.turned (t' := s'.toks) (fun b o hb e => (sb.2 b hb).trans e) f0 f1 f3 f4 f5, rfl, q⟩
theorem ps_setLc {i : Nat} {y : Str} {py : Pos} {elt tg iter : Expr} {ifs : List Expr} {scope : Scope} {own : List (Str × Nat)} {pos spos : Pos} {wi : TI} {g : TG} {tt : TT} {te : TE} (hc : X.calm = true) (hN : X.N.Nodup) (hy : X.N[i]? = some y) (hyl : X.env.scope.names.lookup y = some .local)
    (hsw : swapsWith (.ListComp elt [⟨tg, iter, ifs, 0⟩] scope pos) (some (.Name y py)) spos.line X.env = pure true) (hi : PI X tg iter wi) (ok : BlkOk X.N X.env.scope scope own)
    (hg : ∀ (s : Shared) (H : Hp) (C : Addr) (cl : List (Str × Addr)) (fp : List Addr), PG (X.blk s H scope (compEnvC scope cl C X.env) fp) tg g) (ht : ∀ (s : Shared) (H : Hp) (C : Addr) (cl : List (Str × Addr)) (fp : List Addr), PTs (X.blk s H scope (compEnvC scope cl C X.env) fp) ifs tt)
    (he : ∀ (s : Shared) (H : Hp) (C : Addr) (cl : List (Str × Addr)) (fp : List Addr), PE (X.blk s H scope (compEnvC scope cl C X.env) fp) elt te) (hs : ∀ x, foldedSetIterable iter X.env x = pure x := by intro _; rfl) :
    PS X (.Assign [.Name y py] (.ListComp elt [⟨tg, iter, ifs, 0⟩] scope pos) spos) (tAsg (tLc wi g tt te (own.map (·.2))) (gName i)) := by
  intro pins s σ H D I h
  rw [exec_Assign_Name_used _ _ _ _ hsw]
  refine wpAny_bind (wpAny_standAt (wpAny_bind ?_))
  show wpAny _ X.A (do let _ ← comprehension (.ListComp elt [⟨tg, iter, ifs, 0⟩] scope pos) scope X.env (firstIterPos [⟨tg, iter, ifs, 0⟩] pos) (newList []) false (eval iter X.env) (some (assign (.Name y py) X.env))) _ _ s
  have h : tLc wi g tt te (own.map (·.2)) σ H (fun x H1 => gName i x σ H1 D.nx) := h
  refine wpAny_bind (thn (lc_core (Qf := fun _ s' => SP X pins D .next s') hc hN I hi ok hg ht he hs h fun L C s' m H' I' q hn f => ?_) fun _ s' hq => wpAny_pure (wpAny_pure hq))
  show wpAny _ _ (assign (.Name y py) X.env (.ref L)) _ _ _
  refine wpAny_assign_Name (store_ok2 (v := V.ref L) I' hN hy (.inl hyl) rfl (fun s2 I2 ⟨a, sb, ha⟩ => ?_) (.inr hyl))
  obtain ⟨f0, f1, f2, f3, f4, f5⟩ := f
  have haC : C ≠ a := by
    rcases ha with z | z
    · rw [z]; exact f1
    · exact fun e => f4 y a z e.symm
  refine ⟨m, hn.sameBut sb haC, fun h3 sb3 => ?_⟩
  exact ⟨_, H', I2.turned (t' := s2.toks) (fun b o hb e => (sb3.2 b hb).trans e) f0 f1 f3 f4 f5, q⟩
theorem sw_true {elt : Expr} {gs : List Comprehension} {scope : Scope} {pos py : Pos} {y : Str} {l : Nat} {env : Env} (hk : env.scope.kind = .function) (hy : env.scope.names.lookup y = some .local) (hl : (py.line == pos.line) = true)
    (ha : (scope.names.any fun (n, k) => n == y && (k == .local || k == .cell)) = false) : swapsWith (.ListComp elt gs scope pos) (some (.Name y py)) l env = pure true := by
  have ky : env.kindOf y = some .local := hy
  have hb : env.blockKind = .function := by unfold Env.blockKind; rw [hk]; rfl
  unfold swapsWith
  simp only [hb, ky, ha, Expr.pos, hl]
  rfl
end
theorem lc_range {lo : Int} {n : Nat} {g : TG} {tt : TT} {te : TE} {vs : List Nat} {σ : St} {H1 : Hp} {D : Addr} {Qd : Hp → Prop} (Pv : Nat → Hp → Prop) (h0 : Pv 0 (upd H1 D (.lst [])))
    (hs : ∀ i H, i < n → Pv i H → g (.int (lo + i)) (wipe σ vs) H fun σ2 H2 => wipe σ2 vs = wipe σ vs ∧ tt σ2 H2 fun b H3 =>
      if b = true then te σ2 H3 fun y H4 => ∃ acc, H4 D = some (.lst acc) ∧ acc.length < sizeLine ∧ Pv (i + 1) (upd H4 D (.lst (acc ++ [y]))) else Pv (i + 1) H3) (hd : ∀ H, Pv n H → Qd H) :
    ∃ W : Nat → Nat → Hp → Prop, (∃ m, W 0 m (upd H1 D (.lst []))) ∧ ∀ i m H, W i m H →
      ((Itr lo n).stop i H ∧ Qd H) ∨ ((Itr lo n).go i H ∧ ∃ Nx : Hp → Prop, (∀ H', Nx H' → ∃ m', m' < m ∧ W (i + 1) m' H') ∧ ∀ x H', (Itr lo n).yld i H x H' → g x (wipe σ vs) H' fun σ2 H2 => wipe σ2 vs = wipe σ vs ∧ tt σ2 H2 fun b H3 =>
        if b = true then te σ2 H3 fun y H4 => ∃ acc, H4 D = some (.lst acc) ∧ acc.length < sizeLine ∧ Nx (upd H4 D (.lst (acc ++ [y]))) else Nx H3) := by
  refine ⟨fun i m H => m = n - i ∧ i ≤ n ∧ Pv i H, ⟨n, by simp, Nat.zero_le _, h0⟩, ?_⟩
  rintro i m H ⟨rfl, hi, p⟩
  by_cases hlt : i < n
  · refine .inr ⟨hlt, Pv (i + 1), fun H' p' => ⟨n - (i + 1), by omega, rfl, hlt, p'⟩, fun x H' y => ?_⟩
    obtain ⟨e, y⟩ := y
    subst e y
    exact hs i _ hlt p
  · have e : i = n := by omega
    subst e
    exact .inl ⟨Nat.le_refl _, hd H p⟩
theorem lc_list {K : PySem.W.Frag} {a : Addr} {xs : List V} {g : TG} {tt : TT} {te : TE} {vs : List Nat} {σ : St} {H1 : Hp} {D : Addr} {Qd : Hp → Prop} (Pv : Nat → Hp → Prop) (h0 : Pv 0 (upd H1 D (.lst []))) (hl : ∀ i H, i ≤ xs.length → Pv i H → SqL K H a xs)
    (hs : ∀ i x H, xs[i]? = some x → Pv i H → g x (wipe σ vs) H fun σ2 H2 => wipe σ2 vs = wipe σ vs ∧ tt σ2 H2 fun b H3 =>
      if b = true then te σ2 H3 fun y H4 => ∃ acc, H4 D = some (.lst acc) ∧ acc.length < sizeLine ∧ Pv (i + 1) (upd H4 D (.lst (acc ++ [y]))) else Pv (i + 1) H3) (hd : ∀ H, Pv xs.length H → Qd H) :
    ∃ W : Nat → Nat → Hp → Prop, (∃ m, W 0 m (upd H1 D (.lst []))) ∧ ∀ i m H, W i m H →
      ((Itl K a).stop i H ∧ Qd H) ∨ ((Itl K a).go i H ∧ ∃ Nx : Hp → Prop, (∀ H', Nx H' → ∃ m', m' < m ∧ W (i + 1) m' H') ∧ ∀ x H', (Itl K a).yld i H x H' → g x (wipe σ vs) H' fun σ2 H2 => wipe σ2 vs = wipe σ vs ∧ tt σ2 H2 fun b H3 =>
        if b = true then te σ2 H3 fun y H4 => ∃ acc, H4 D = some (.lst acc) ∧ acc.length < sizeLine ∧ Nx (upd H4 D (.lst (acc ++ [y]))) else Nx H3) := by
  refine ⟨fun i m H => m = xs.length - i ∧ i ≤ xs.length ∧ Pv i H, ⟨xs.length, by simp, Nat.zero_le _, h0⟩, ?_⟩
  rintro i m H ⟨rfl, hi, p⟩
  have q := hl i H hi p
  by_cases hlt : i < xs.length
  · refine .inr ⟨⟨xs, xs[i], q, by simp [hlt]⟩, Pv (i + 1), fun H' p' => ⟨xs.length - (i + 1), by omega, rfl, hlt, p'⟩, fun x H' y => ?_⟩
    obtain ⟨e, y⟩ := y
    subst e
    exact hs i x _ (y xs q) p
  · have e : i = xs.length := by omega
    subst e
    exact .inl ⟨⟨xs, q, Nat.le_refl _⟩, hd H p⟩
def blkC (N : List Str) (sc scope : Scope) (own : List (Str × Nat)) : Bool :=
  (match scope.kind with | .function => true | _ => false) && (scope.names.all fun y => decide (scope.names.lookup y.1 = some y.2)) && (own.all fun p => decide (N[p.2]? = some p.1)) &&
    (scope.names.all fun y => match y.2 with
      | .free => (match sc.names.lookup y.1 with | some .cell => true | some .free => true | _ => false)
      | .local => decide (y.1 ∈ own.map (·.1)) || decide (y.1 ∉ N)
      | .cell => decide (y.1 ∈ own.map (·.1)) || decide (y.1 ∉ N)
      | _ => true)
theorem blkOk_by {N : List Str} {sc scope : Scope} {own : List (Str × Nat)} (h : blkC N sc scope own = true) : BlkOk N sc scope own := by
  unfold blkC at h
  simp only [Bool.and_eq_true, List.all_eq_true, decide_eq_true_eq] at h
  obtain ⟨⟨⟨h1, h2⟩, h3⟩, h4⟩ := h
  refine ⟨?_, h2, h3, fun y hy e => ?_, fun y hy e => ?_⟩
  · split at h1
    · assumption
    · cases h1
  · have q := h4 y hy
    simp only [e] at q
    split at q <;> first | exact .inl (by assumption) | exact .inr (by assumption) | cases q
  · have q := h4 y hy
    rcases e with e | e <;> (simp only [e, Bool.or_eq_true, decide_eq_true_eq] at q; exact q)
end L2
namespace L2
open PySem PySem.Spec PyProof.Rows
section
variable {prog : Program} {w : World} {A : Around} {R : Result → Shared → Prop} {s : Shared} {elt t0 i0 t1 i1 : Expr} {ifs0 ifs1 : List Expr} {scope : Scope} {pos : Pos} {it acc : Value} {env : Env}
end
section
variable {X : Cx}
end
end L2
namespace L2
open PySem PySem.Spec PyProof.Rows
section
variable {κ : Type} [DecidableEq κ]
def valV (kvs : List (κ × V)) (k : κ) : Option V := (kvs.find? fun kv => decide (kv.1 = k)).map (·.2)
def putK (kvs : List (κ × V)) (k : κ) (v : V) : List (κ × V) :=
  if (kvs.any fun kv => decide (kv.1 = k)) = true then kvs.map (fun kv => if kv.1 = k then (kv.1, v) else kv) else kvs ++ [(k, v)]
def dropK (kvs : List (κ × V)) (k : κ) : List (κ × V) := kvs.filter fun kv => decide (kv.1 ≠ k)
theorem valV_pos {p : κ × V} {r : List (κ × V)} {k : κ} (e : p.1 = k) : valV (p :: r) k = some p.2 := by simp [valV, List.find?_cons, e]
theorem valV_neg {p : κ × V} {r : List (κ × V)} {k : κ} (e : ¬ p.1 = k) : valV (p :: r) k = valV r k := by simp [valV, List.find?_cons, e]
theorem valV_any (k : κ) : ∀ kvs : List (κ × V), (kvs.any fun kv => decide (kv.1 = k)) = (valV kvs k).isSome
  | [] => rfl
  | p :: r => by
    rw [List.any_cons]
    by_cases e : p.1 = k
    · simp only [valV_pos e, decide_eq_true e, Bool.true_or, Option.isSome_some]
    · rw [valV_neg e, decide_eq_false e, Bool.false_or]; exact valV_any k r
theorem length_putK (kvs : List (κ × V)) (k : κ) (v : V) : (putK kvs k v).length ≤ kvs.length + 1 := by
  unfold putK
  split
  · rw [List.length_map]; omega
  · rw [List.length_append, List.length_cons, List.length_nil]; omega
theorem putK_new {kvs : List (κ × V)} {k : κ} (v : V) (h : valV kvs k = none) : putK kvs k v = kvs ++ [(k, v)] := by
  unfold putK
  rw [valV_any, h]
  exact if_neg (by decide)
theorem RelO.isSome_eq {o : Option V} {u : Option Value} (r : RelO o u) : o.isSome = u.isSome := by
  cases o with
  | none => cases u with
    | none => rfl
    | some _ => exact (show False from r).elim
  | some _ => cases u with
    | none => exact (show False from r).elim
    | some _ => rfl
theorem KV.val {kvs : List (κ × V)} {vs : List (κ × Value)} (r : KV kvs vs) (k : κ) : RelO (valV kvs k) (valueAt vs k) := by
  unfold KV at r
  induction r with
  | nil => exact True.intro
  | @cons p q ps qs h t ih =>
    obtain ⟨h1, h2⟩ := h
    by_cases e : p.1 = k
    · have e' : q.1 = k := h1.symm.trans e
      have b : valueAt (q :: qs) k = some q.2 := by simp [valueAt, List.find?_cons, e']
      rw [valV_pos e, b]; exact h2
    · have e' : ¬ q.1 = k := fun z => e (h1.trans z)
      have b : valueAt (q :: qs) k = valueAt qs k := by simp [valueAt, List.find?_cons, e']
      rw [valV_neg e, b]; exact ih
theorem KV.any {kvs : List (κ × V)} {vs : List (κ × Value)} (r : KV kvs vs) (k : κ) : (kvs.any fun kv => decide (kv.1 = k)) = vs.any fun kv => decide (kv.1 = k) := by
  unfold KV at r
  induction r with
  | nil => rfl
  | cons h t ih => rw [List.any_cons, List.any_cons, ih, h.1]
theorem KV.repl {kvs : List (κ × V)} {vs : List (κ × Value)} (r : KV kvs vs) (k : κ) {y : V} {u : Value} (ry : RelV y u) :
    KV (kvs.map fun kv => if kv.1 = k then (kv.1, y) else kv) (vs.map fun kv => if kv.1 = k then (kv.1, u) else kv) := by
  unfold KV at r ⊢
  induction r with
  | nil => exact .nil
  | @cons p q ps qs h t ih =>
    rw [List.map_cons, List.map_cons]
    refine .cons ?_ ih
    obtain ⟨h1, h2⟩ := h
    by_cases e : p.1 = k
    · rw [if_pos e, if_pos (h1.symm.trans e)]; exact ⟨h1, ry⟩
    · rw [if_neg e, if_neg (fun z => e (h1.trans z))]; exact ⟨h1, h2⟩
theorem KV.put {kvs : List (κ × V)} {vs : List (κ × Value)} (r : KV kvs vs) (k : κ) {y : V} {u : Value} (ry : RelV y u) : KV (putK kvs k y) (stored vs k u) := by
  unfold putK stored
  rw [r.any k]
  by_cases e : (vs.any fun kv => decide (kv.1 = k)) = true
  · rw [if_pos e, if_pos e]; exact r.repl k ry
  · rw [if_neg e, if_neg e]; exact Paired.snoc r ⟨rfl, ry⟩
theorem KV.drop {kvs : List (κ × V)} {vs : List (κ × Value)} (r : KV kvs vs) (k : κ) : KV (dropK kvs k) (without vs k) := by
  unfold KV at r ⊢
  unfold dropK without
  induction r with
  | nil => exact .nil
  | @cons p q ps qs h t ih =>
    obtain ⟨h1, h2⟩ := h
    rw [List.filter_cons, List.filter_cons]
    by_cases e : p.1 = k
    · have a : ¬ decide (p.1 ≠ k) = true := by simp [e]
      have b : ¬ decide (q.1 ≠ k) = true := by simp [h1.symm.trans e]
      rw [if_neg a, if_neg b]; exact ih
    · have e' : ¬ q.1 = k := fun z => e (h1.trans z)
      have a : decide (p.1 ≠ k) = true := by simp [e]
      have b : decide (q.1 ≠ k) = true := by simp [e']
      rw [if_pos a, if_pos b]; exact .cons ⟨h1, h2⟩ ih
theorem KV.length {kvs : List (κ × V)} {vs : List (κ × Value)} (r : KV kvs vs) : kvs.length = vs.length := Paired.length r
theorem dropK_le (kvs : List (κ × V)) (k : κ) : (dropK kvs k).length ≤ kvs.length := List.length_filter_le _ _
end
theorem kV_is {P : Program} {w : World} {k : Key} {u : Value} (r : RelV (kV k) u) : (mixKind P w).is k u = true := by
  cases k with
  | inl i => obtain ⟨t, e⟩ := (show ∃ t, u = Value.int i t from r); subst e; exact mixKind_int P w i t
  | inr x => obtain ⟨t, e⟩ := (show ∃ t, u = Value.str x t from r); subst e; exact mixKind_str P w x t
theorem items_are {P : Program} {w : World} : ∀ {ks : List Key} {us : List Value}, Vals (ks.map kV) us → ItemsAre (mixKind P w) ks us
  | [], _, r => by rw [List.map_nil] at r; cases r; exact .nil
  | k :: ks, _, r => by
    rw [List.map_cons] at r
    cases r with
    | cons h t => exact .cons (kV_is h) (items_are t)
abbrev KT (H : Hp) : List (List Key × V) → List (List Key × Addr × Value) → Prop := Paired fun p q => p.1 = q.1 ∧ H q.2.1 = some (.tup (p.1.map kV)) ∧ RelV p.2 q.2.2
theorem KT.val {H : Hp} {kvs : List (List Key × V)} {xs : List (List Key × Addr × Value)} (r : KT H kvs xs) (k : List Key) : RelO (valV kvs k) ((atKey xs k).map (·.2)) := by
  induction r with
  | nil => exact True.intro
  | @cons p q ps qs h t ih =>
    obtain ⟨h1, _, h2⟩ := h
    by_cases e : p.1 = k
    · have e' : q.1 = k := h1.symm.trans e
      have b : atKey (q :: qs) k = some q.2 := by simp [atKey, List.find?_cons, e']
      rw [valV_pos e, b]; exact h2
    · have e' : ¬ q.1 = k := fun z => e (h1.trans z)
      have b : atKey (q :: qs) k = atKey qs k := by simp [atKey, List.find?_cons, e']
      rw [valV_neg e, b]; exact ih
theorem KT.repl {H : Hp} {kvs : List (List Key × V)} {xs : List (List Key × Addr × Value)} (r : KT H kvs xs) (k : List Key) {y : V} {u : Value} (ry : RelV y u) :
    KT H (kvs.map fun kv => if kv.1 = k then (kv.1, y) else kv) (xs.map (putAt k u)) := by
  induction r with
  | nil => exact .nil
  | @cons p q ps qs h t ih =>
    rw [List.map_cons, List.map_cons]
    refine .cons ?_ ih
    obtain ⟨h1, h2, h3⟩ := h
    unfold putAt
    by_cases e : p.1 = k
    · rw [if_pos e, if_pos (h1.symm.trans e)]; exact ⟨h1, h2, ry⟩
    · rw [if_neg e, if_neg (fun z => e (h1.trans z))]; exact ⟨h1, h2, h3⟩
theorem KT.put {H : Hp} {kvs : List (List Key × V)} {xs : List (List Key × Addr × Value)} (r : KT H kvs xs) (k : List Key) {b : Addr} {y : V} {u : Value} (hb : H b = some (.tup (k.map kV))) (ry : RelV y u) :
    KT H (putK kvs k y) (storedH xs k b u) := by
  have e : (kvs.any fun kv => decide (kv.1 = k)) = (atKey xs k).isSome := by
    rw [valV_any, (r.val k).isSome_eq, Option.isSome_map]
  unfold putK storedH
  rw [e]
  by_cases q : (atKey xs k).isSome = true
  · rw [if_pos q, if_pos q]; exact r.repl k ry
  · rw [if_neg q, if_neg q]; exact Paired.snoc r ⟨rfl, hb, ry⟩
theorem KT.keeps {H H' : Hp} {kvs : List (List Key × V)} {xs : List (List Key × Addr × Value)} (r : KT H kvs xs) (ht : ∀ b ys, H b = some (.tup ys) → H' b = some (.tup ys)) : KT H' kvs xs :=
  Paired.mapP r fun _ _ z => ⟨z.1, ht _ _ z.2.1, z.2.2⟩
section
variable {P : Program} {w : World} {H : Hp} {h : Heap} {a : Addr}
theorem rd_of {u : HO} (ok : HOk P w H h) (e : Rd H a u) : ObjOk P w H h a u := e.ok ok
theorem dk_rd {kvs : List (Key × V)} (ok : HOk P w H h) (e : Rd H a (.dK kvs)) : kvs.length ≤ sizeLine ∧ (a == sysModules) = false ∧ ∃ vs, KV kvs vs ∧ h.DictOf (mixKind P w) a vs :=
  show ObjOk P w H h a (.dK kvs) from rd_of ok e
theorem dk_of {kvs : List (Key × V)} (ok : HOk P w H h) (e : H a = some (.dK kvs)) : kvs.length ≤ sizeLine ∧ (a == sysModules) = false ∧ ∃ vs, KV kvs vs ∧ h.DictOf (mixKind P w) a vs := dk_rd ok (.inl e)
theorem key_of {ks : List Key} (ok : HOk P w H h) (e : H a = some (.tup (ks.map kV))) : (tupleKind (mixKind P w)).is h ks a := by
  obtain ⟨_, its, r, o, h1, h2, n, h3⟩ := (show ObjOk P w H h a (.tup (ks.map kV)) from ok a _ e)
  exact ⟨o, its.toArray, n, h1, h2, h3, by simpa using items_are r⟩
theorem dt_rd {kvs : List (List Key × V)} (ok : HOk P w H h) (e : Rd H a (.dT kvs)) : kvs.length ≤ sizeLine ∧ (a == sysModules) = false ∧
    ∃ xs, KT H kvs xs ∧ h.DictOfH (tupleKind (mixKind P w)) a xs := by
  obtain ⟨z, y, xs, r, o, es, ep, h1, h2, h3, h4, h5⟩ := (show ObjOk P w H h a (.dT kvs) from rd_of ok e)
  refine ⟨z, y, xs, r, o, es, ep, h1, h2, h3, h4, fun x hx => ?_, h5⟩
  have all : ∀ {l : List (List Key × V)} {m : List (List Key × Addr × Value)}, KT H l m → ∀ x ∈ m, (tupleKind (mixKind P w)).is h x.1 x.2.1 := by
    intro l m q
    induction q with
    | nil => intro x hx; exact nomatch hx
    | @cons p q ps qs hq t ih =>
      intro x hx
      rcases List.mem_cons.mp hx with e | hx
      · subst e
        exact key_of ok (by rw [← hq.1]; exact hq.2.1)
      · exact ih x hx
  exact all r x hx
theorem dt_of {kvs : List (List Key × V)} (ok : HOk P w H h) (e : H a = some (.dT kvs)) : kvs.length ≤ sizeLine ∧ (a == sysModules) = false ∧
    ∃ xs, KT H kvs xs ∧ h.DictOfH (tupleKind (mixKind P w)) a xs := dt_rd ok (.inl e)
end
def DGet (H : Hp) (a : Addr) (y : V) (r : Option V) : Prop :=
  (∃ kvs k, Rd H a (.dK kvs) ∧ y = kV k ∧ r = valV kvs k) ∨ ∃ kvs k b, Rd H a (.dT kvs) ∧ y = .ref b ∧ H b = some (.tup (k.map kV)) ∧ r = valV kvs k
def DPut (H : Hp) (a : Addr) (y v : V) (H' : Hp) : Prop :=
  (∃ kvs k, H a = some (.dK kvs) ∧ y = kV k ∧ kvs.length < sizeLine ∧ H' = upd H a (.dK (putK kvs k v))) ∨
  ∃ kvs k b, H a = some (.dT kvs) ∧ y = .ref b ∧ H b = some (.tup (k.map kV)) ∧ kvs.length < sizeLine ∧ H' = upd H a (.dT (putK kvs k v))
theorem DGet.k {H : Hp} {a : Addr} {kvs : List (Key × V)} {k : Key} (e : H a = some (.dK kvs)) : DGet H a (kV k) (valV kvs k) := .inl ⟨kvs, k, .inl e, rfl, rfl⟩
theorem DPut.k {H : Hp} {a : Addr} {kvs : List (Key × V)} {k : Key} {v : V} (e : H a = some (.dK kvs)) (hl : kvs.length < sizeLine) : DPut H a (kV k) v (upd H a (.dK (putK kvs k v))) := .inl ⟨kvs, k, e, rfl, hl, rfl⟩
section
variable {X : Cx} {pins : List (Addr × Obj)} {σ : St} {H : Hp} {s : Shared} {a : Addr} {y v : V} {u r : Value} {o : Option V} {A : Around} {E : Value → Shared → Prop}
theorem Inv.big (I : Inv X pins σ H s) : sysModules < s.heap.objs.size := by
  have h : mainGlobals < s.heap.objs.size := (I.mod.glob.keeps I.bk).lt
  exact Nat.lt_trans (by decide) h
theorem d_getItem {Q : Value → Shared → Prop} (hu : A.units + 1 < cLine) (I : Inv X pins σ H s) (g : DGet H a y (some v)) (ry : RelV y u) (h : ∀ w' s', Inv X pins σ H s' → RelV v w' → Q w' s') :
    wpAny (model X.prog X.w) A (getItem (.ref a) u) Q E s := by
  rcases g with ⟨kvs, k, e, ey, l⟩ | ⟨kvs, k, b, e, ey, eb, l⟩
  · subst ey
    obtain ⟨z, hd, vs, rel, dd⟩ := dk_rd I.hok e
    obtain ⟨w', hw, rw'⟩ := RelO.some_of (v := v) (o := valueAt vs k) (by rw [l]; exact rel.val k)
    exact wpAny_getItem_of (kV_is ry) dd.mapOf hw (h w' _ (I.tok _) rw')
  · subst ey
    cases (show u = Value.ref b from ry)
    obtain ⟨z, hd, xs, rel, dd⟩ := dt_rd I.hok e
    obtain ⟨w', hw, rw'⟩ := RelO.some_of (v := v) (o := (atKey xs k).map (·.2)) (by rw [l]; exact rel.val k)
    obtain ⟨p, hp, hp2⟩ := Option.map_eq_some_iff.mp hw
    refine wpAny_getItem_heap (tupleKind_room_in1 hu) (key_of I.hok eb) dd hp ?_
    rw [hp2]
    exact h w' _ (I.tok _) rw'
theorem d_in {Q : Value → Shared → Prop} (hu : A.units + 1 < cLine) (I : Inv X pins σ H s) (g : DGet H a y o) (ry : RelV y u) (h : ∀ s', Inv X pins σ H s' → Q (.bool o.isSome) s') :
    wpAny (model X.prog X.w) A (compareOp .In u (.ref a)) Q E s := by
  rcases g with ⟨kvs, k, e, ey, l⟩ | ⟨kvs, k, b, e, ey, eb, l⟩
  · subst ey
    obtain ⟨z, hd, vs, rel, dd⟩ := dk_rd I.hok e
    refine wpAny_in_of (kV_is ry) hd dd.mapOf ?_
    rw [← (rel.val k).isSome_eq, ← l]
    exact h _ (I.tok _)
  · subst ey
    cases (show u = Value.ref b from ry)
    obtain ⟨z, hd, xs, rel, dd⟩ := dt_rd I.hok e
    refine wpAny_in_heap (tupleKind_room_in1 hu) (key_of I.hok eb) hd dd ?_
    have q := (rel.val k).isSome_eq
    rw [Option.isSome_map] at q
    rw [← q, ← l]
    exact h _ (I.tok _)
theorem d_notIn {Q : Value → Shared → Prop} (hu : A.units + 1 < cLine) (I : Inv X pins σ H s) (g : DGet H a y o) (ry : RelV y u) (h : ∀ s', Inv X pins σ H s' → Q (.bool (!o.isSome)) s') :
    wpAny (model X.prog X.w) A (compareOp .NotIn u (.ref a)) Q E s := by
  rcases g with ⟨kvs, k, e, ey, l⟩ | ⟨kvs, k, b, e, ey, eb, l⟩
  · subst ey
    obtain ⟨z, hd, vs, rel, dd⟩ := dk_rd I.hok e
    refine wpAny_notIn_of (kV_is ry) hd dd.mapOf ?_
    rw [← (rel.val k).isSome_eq, ← l]
    exact h _ (I.tok _)
  · subst ey
    cases (show u = Value.ref b from ry)
    obtain ⟨z, hd, xs, rel, dd⟩ := dt_rd I.hok e
    refine wpAny_notIn_heap (tupleKind_room_in1 hu) (key_of I.hok eb) hd dd ?_
    have q := (rel.val k).isSome_eq
    rw [Option.isSome_map] at q
    rw [← q, ← l]
    exact h _ (I.tok _)
theorem d_write {h' : Heap} {t' : Nat} {ob : HO} (I : Inv X pins σ H s) (mu : Mut (H a)) (hs : Heap.SameBut a s.heap h') (he : ∃ q, h'.get? a = some q) (new : ObjOk X.prog X.w (upd H a ob) h' a ob) :
    Inv X pins σ (upd H a ob) { s with heap := h', toks := t' } :=
  I.write (x := a) (e := a) mu (.inl rfl) (fun b q hb z => (hs.2 b hb).trans z) he new
theorem dk_new {P : Program} {w : World} {H' : Hp} {h' : Heap} {kvs : List (Key × V)} {vs : List (Key × Value)} (z : kvs.length ≤ sizeLine) (hd : (a == sysModules) = false) (rel : KV kvs vs) (dd : h'.DictOf (mixKind P w) a vs) :
    ObjOk P w H' h' a (.dK kvs) := ⟨z, hd, vs, rel, dd⟩
theorem d_setItem {H' : Hp} {Q : Unit → Shared → Prop} (hu : A.units + 1 < cLine) (I : Inv X pins σ H s) (g : DPut H a y v H') (ry : RelV y u) (rv : RelV v r) (h : ∀ s', Inv X pins σ H' s' → Q () s') :
    wpAny (model X.prog X.w) A (setItem (.ref a) u r) Q E s := by
  rcases g with ⟨kvs, k, e, ey, l, eH⟩ | ⟨kvs, k, b, e, ey, eb, l, eH⟩
  · subst ey eH
    obtain ⟨z, hd, vs, rel, dd⟩ := dk_of I.hok e
    have hz : vs.length ≤ sizeLine := by rw [← rel.length]; exact z
    have hl : (putK kvs k v).length ≤ sizeLine := by have := length_putK kvs k v; omega
    refine wpAny_setItem_pairs (hsz := hz) (kV_is ry) dd fun h' dd' hs => h _ ?_
    have he : ∃ q, h'.get? a = some q := let ⟨q, _, _, hq, _⟩ := dd'; ⟨q, hq⟩
    exact d_write I (by rw [e]; exact True.intro) hs he (dk_new hl hd (rel.put k rv) dd')
  · subst ey eH
    cases (show u = Value.ref b from ry)
    obtain ⟨z, hd, xs, rel, dd⟩ := dt_of I.hok e
    have hz : xs.length ≤ sizeLine := by rw [← Paired.length rel]; exact z
    have hl : (putK kvs k v).length ≤ sizeLine := by have := length_putK kvs k v; omega
    refine wpAny_setItem_heap (hsz := hz) (tupleKind_room_in1 hu) (key_of I.hok eb) dd fun h' dd' hs => h _ ?_
    obtain ⟨q, es, ep, hq, h2, h3, h4, _, h5⟩ := dd'
    refine d_write I (by rw [e]; exact True.intro) hs ⟨q, hq⟩ ⟨hl, hd, _, (rel.put k eb rv).keeps fun c ys ec => ?_, q, es, ep, hq, h2, h3, h4, h5⟩
    rw [upd_ne (ne_of ec e (fun z => nomatch z))]
    exact ec
end
section
variable {X : Cx} {pins : List (Addr × Obj)} {σ : St} {H : Hp} {s : Shared} {a : Addr} {kvs : List (Key × V)} {k : Key} {u : Value} {A : Around} {E : Value → Shared → Prop}
theorem d_delItem {Q : Unit → Shared → Prop} (I : Inv X pins σ H s) (e : H a = some (.dK kvs)) (ry : RelV (kV k) u) (l : (valV kvs k).isSome = true) (h : ∀ s', Inv X pins σ (upd H a (.dK (dropK kvs k))) s' → Q () s') :
    wpAny (model X.prog X.w) A (delItem (.ref a) u) Q E s := by
  obtain ⟨z, hd, vs, rel, dd⟩ := dk_of I.hok e
  refine wpAny_delItem_slot dd.typeIs (by decide) PySem.F.slot_dict_delitem
    (call_meetsIn PySem.F.slot_dict_delitem dd.typeIs PySem.F.entry_dict_delitem (PySem.F.args_dict_delitem_2 _ _) (meets_dict_delitem_pairs (mixKind X.prog X.w) a (kV_is ry)) ⟨vs, dd, by rw [← rel.length]; exact z, by rw [← (rel.val k).isSome_eq]; exact l, fun h' dd' hs => h _ ?_⟩)
  have he : ∃ q, h'.get? a = some q := let ⟨q, _, _, hq, _⟩ := dd'; ⟨q, hq⟩
  exact d_write I (by rw [e]; exact True.intro) hs he (dk_new (Nat.le_trans (dropK_le kvs k) z) hd (rel.drop k) dd')
theorem d_pop {v : V} {more : List Value} {Q : Value → Shared → Prop} (I : Inv X pins σ H s) (e : H a = some (.dK kvs)) (ry : RelV (kV k) u) (l : valV kvs k = some v) (hm : more = [] ∨ ∃ x, more = [x])
    (h : ∀ w' s', Inv X pins σ (upd H a (.dK (dropK kvs k))) s' → RelV v w' → Q w' s') : wpAny (model X.prog X.w) A (call (.builtin "dict.pop") (.ref a :: u :: more)) Q E s := by
  obtain ⟨z, hd, vs, rel, dd⟩ := dk_of I.hok e
  obtain ⟨w', hw, rw'⟩ := RelO.some_of (v := v) (o := valueAt vs k) (by rw [← l]; exact rel.val k)
  have hp : (keyPart u).isSome = true := by
    cases k with
    | inl i => obtain ⟨t, q⟩ := (show ∃ t, u = Value.int i t from ry); subst q; rfl
    | inr x => obtain ⟨t, q⟩ := (show ∃ t, u = Value.str x t from ry); subst q; rfl
  have ha : argsOk "dict.pop" ⟨.ref a :: u :: more, []⟩ := by
    rcases hm with q | ⟨x, q⟩
    · subst q; exact PySem.F.args_dict_pop_2 _ _
    · subst q; exact PySem.F.args_dict_pop_3 _ _ _
  refine call_meetsIn PySem.F.slot_dict_pop dd.typeIs PySem.F.entry_dict_pop ha (meets_dict_pop_there (mixKind X.prog X.w) a (kV_is ry) more hm hp)
    ⟨vs, w', dd, by rw [← rel.length]; exact z, hw, fun h' dd' hs => h w' _ ?_ rw'⟩
  have he : ∃ q, h'.get? a = some q := let ⟨q, _, _, hq, _⟩ := dd'; ⟨q, hq⟩
  exact d_write I (by rw [e]; exact True.intro) hs he (dk_new (Nat.le_trans (dropK_le kvs k) z) hd (rel.drop k) dd')
theorem d_len {Q : Value → Shared → Prop} (I : Inv X pins σ H s) (e : Rd H a (.dK kvs)) (h : ∀ t s', Inv X pins σ H s' → Q (.int kvs.length t) s') : wpAny (model X.prog X.w) A (call (.builtin "len") [.ref a]) Q E s := by
  obtain ⟨z, hd, vs, rel, dd⟩ := dk_rd I.hok e
  refine call_len_dict hd dd (by rw [← rel.length]; rw [sizeLine_eq] at z; omega) ?_
  rw [← rel.length]
  exact h _ _ (I.tok _)
end
def NoSl (i : Expr) : Prop := ∀ ov iv, subscripted i false ov iv = operate [ov, iv] (getItem ov iv)
theorem subD_of {prog : Program} {w : World} {A : Around} {E : Value → Shared → Prop} {s : Shared} {env : Env} {value slice : Expr} {pos : Pos} {T id : String} {Q : Value → Shared → Prop}
    (hl : typeLookup (.type T) "__getitem__" = pure (some (.builtin id))) (hs : NoSl slice)
    (h : wpAny (model prog w) A (eval value env) (fun o s₁ => wpAny (model prog w) A (eval slice env) (fun i s₂ => s₂.TypeIs o T ∧ wpAny (model prog w) A (getItem o i) Q E s₂) E s₁) E s) :
    wpAny (model prog w) A (eval (.Subscript value slice pos) env) Q E s := by
  refine Subscript_ (wpAny_mono h (fun o s₁ h₁ => wpAny_mono h₁ (fun i s₂ h₂ => ?_) fun _ _ x => x) fun _ _ x => x)
  obtain ⟨hT, h₂⟩ := h₂
  unfold subscriptTail
  refine wpAny_bind ?_
  rw [getitemInPython_of_ne hT.not_modules]
  refine wpAny_bind (wpAny_specialOf hT hl ?_)
  have fin : wpAny (model prog w) A (subscripted slice false o i) (fun r s₃ => wpAny (model prog w) A (letTemporaryGo value o r >>= fun _ => pure r) Q E s₃) E s₂ := by
    rw [hs o i]
    exact wpAny_operating (wpAny_mono h₂ (fun r s₃ h₃ => wpAny_bind (wpAny_letTemporaryGo (wpAny_pure h₃))) fun _ _ x => x)
  first
    | exact wpAny_pure (wpAny_bind fin)
    | exact wpAny_bind (wpAny_pure (wpAny_bind fin))
    | exact wpAny_bind fin
theorem dict_typeIs {X : Cx} {pins : List (Addr × Obj)} {σ : St} {H : Hp} {s : Shared} {a : Addr} {y : V} {o : Option V} (I : Inv X pins σ H s) (g : DGet H a y o) : s.TypeIs (.ref a) "dict" := by
  rcases g with ⟨kvs, k, e, _, _⟩ | ⟨kvs, k, b, e, _, _, _⟩
  · obtain ⟨_, _, vs, _, dd⟩ := dk_rd I.hok e
    exact dd.typeIs
  · obtain ⟨_, _, xs, _, dd⟩ := dt_rd I.hok e
    exact dd.typeIs
def tDGet (td ty : TE) : TE := fun σ H Q => td σ H fun x H1 => ty σ H1 fun y H2 => ∃ a v, x = .ref a ∧ DGet H2 a y (some v) ∧ Q v H2
def tDIn (ty td : TE) : TE := fun σ H Q => ty σ H fun y H1 => td σ H1 fun x H2 => ∃ a o, x = .ref a ∧ DGet H2 a y o ∧ Q (.bl o.isSome) H2
def tDNotIn (ty td : TE) : TE := fun σ H Q => ty σ H fun y H1 => td σ H1 fun x H2 => ∃ a o, x = .ref a ∧ DGet H2 a y o ∧ Q (.bl (!o.isSome)) H2
def sDPut (td ty tv : TE) : TS := fun D σ H => tv σ H fun v H1 => td σ H1 fun x H2 => ty σ H2 fun y H3 => ∃ a H4, x = .ref a ∧ DPut H3 a y v H4 ∧ D.nx σ H4
section
variable {X : Cx} {o i e value : Expr} {pos pos' tpos : Pos} {td ty tv : TE}
theorem pe_dget (hu : X.A.units + 1 < cLine) (ho : PE X o td) (hi : PE X i ty) (hs : NoSl i) : PE X (.Subscript o i pos) (tDGet td ty) := by
  intro pins s σ H Q I h
  refine subD_of PySem.F.slot_dict_getitem.lookup hs (thn (ho pins s σ H _ I h) fun u s1 ⟨x, H1, I1, rx, q1⟩ => thn (hi pins s1 σ H1 _ I1 q1) fun iv s2 ⟨y, H2, I2, ry, a, v, ex, g, q2⟩ => ?_)
  subst ex
  obtain rfl : u = Value.ref a := rx
  exact ⟨dict_typeIs I2 g, d_getItem hu I2 g ry fun w' s3 I3 rw' => ⟨v, H2, I3, rw', q2⟩⟩
theorem pc_din (hu : X.A.units + 1 < cLine) (hi : PE X i ty) (ho : PE X o td) : PC X .In i o (tDIn ty td) := by
  intro pins s σ H Q I h
  refine thn (hi pins s σ H _ I h) fun iv s1 ⟨y, H1, I1, ry, q1⟩ => thn (ho pins s1 σ H1 _ I1 q1) fun u s2 ⟨x, H2, I2, rx, a, ov, ex, g, q2⟩ => ?_
  subst ex
  obtain rfl : u = Value.ref a := rx
  exact d_in hu I2 g ry fun s3 I3 => ⟨.bl ov.isSome, H2, I3, rfl, q2⟩
theorem pc_dnotin (hu : X.A.units + 1 < cLine) (hi : PE X i ty) (ho : PE X o td) : PC X .NotIn i o (tDNotIn ty td) := by
  intro pins s σ H Q I h
  refine thn (hi pins s σ H _ I h) fun iv s1 ⟨y, H1, I1, ry, q1⟩ => thn (ho pins s1 σ H1 _ I1 q1) fun u s2 ⟨x, H2, I2, rx, a, ov, ex, g, q2⟩ => ?_
  subst ex
  obtain rfl : u = Value.ref a := rx
  exact d_notIn hu I2 g ry fun s3 I3 => ⟨.bl (!ov.isSome), H2, I3, rfl, q2⟩
theorem ps_dput (hu : X.A.units + 1 < cLine) (ho : PE X o td) (hi : PE X i ty) (hv : PE X value tv) (hs : swapsWith value (some (.Subscript o i pos')) pos.line X.env = pure false) :
    PS X (.Assign [.Subscript o i pos'] value pos) (sDPut td ty tv) := by
  intro pins s σ H D I h
  refine wpAny_Assign_Subscript (thn (hv pins s σ H _ I h) fun r s1 ⟨v, H1, I1, rv, q1⟩ => thn (ho pins s1 σ H1 _ I1 q1) fun u s2 ⟨x, H2, I2, rx, q2⟩ => thn (hi pins s2 σ H2 _ I2 q2) fun iv s3 ⟨y, H3, I3, ry, a, H4, ex, g, q3⟩ => ?_) hs
  subst ex
  obtain rfl : u = Value.ref a := rx
  exact d_setItem hu I3 g ry rv fun s4 I4 => ⟨σ, H4, I4, q3⟩
end
theorem dk_empty {P : Program} {w : World} {H : Hp} (h : Heap) (hb : sysModules < h.objs.size) : ObjOk P w H (h.push { cls := .type "dict", data := .dict #[] }) h.objs.size (.dK []) :=
  ⟨Nat.zero_le _, beq_eq_false_iff_ne.mpr (Ne.symm (Nat.ne_of_lt hb)), [], .nil, Heap.DictOf.new h⟩
def tDNewK : TE := fun _ H Q => ∀ p, H p = none → Q (.ref p) (upd H p (.dK []))
section
variable {X : Cx} {pos : Pos}
theorem pe_dnewK : PE X (.Dict [] [] pos) tDNewK := fun pins s σ H Q I h =>
  wpAny_Dict_empty ⟨.ref s.heap.objs.size, _, I.laid (a := s.heap.objs.size) (o := .dK []) (t' := s.toks) (fun _ _ q => Heap.get?_push_of_some _ q) (Nat.le_refl _) (dk_empty s.heap I.big), rfl, h _ (I.hok.fresh (Nat.le_refl _))⟩
end
structure M1 (X : Cx) (o : Expr) (m : Str) (apos : Pos) (e : Expr) (cpos : Pos) : Prop where
  base : attributeBase o m X.env (eval o X.env) = eval o X.env
  few : ((backTo cpos (starEach [e] X.env)).all (fun x => !x.1) && (backToKw cpos (keywordEach [] X.env)).all (fun x => x.1.isSome)
    && decide (([e] : List Expr).length + ([] : List Keyword).length + (if ([] : List Keyword).isEmpty then 0 else 1) < 30)) = true
  line : (apos.endLine == cpos.line) = true
  trees : backTo cpos (starEach [e] X.env) = [(false, eval e X.env)]
def IsD (H : Hp) (a : Addr) : Prop := (∃ kvs, Rd H a (.dK kvs)) ∨ ∃ kvs, Rd H a (.dT kvs)
theorem isD_at {X : Cx} {pins : List (Addr × Obj)} {σ : St} {H : Hp} {s : Shared} {a : Addr} (I : Inv X pins σ H s) (d : IsD H a) :
    s.TypeIs (.ref a) "dict" ∧ (∀ b, Value.ref a = .ref b → ∃ ob, s.heap.get? b = some ob ∧ ob.dict = none) ∧ (a == sysModules) = false := by
  rcases d with ⟨kvs, e⟩ | ⟨kvs, e⟩
  · obtain ⟨_, hd, vs, _, dd⟩ := dk_rd I.hok e
    refine ⟨dd.typeIs, fun b q => ?_, hd⟩
    cases q
    obtain ⟨ob, _, _, h1, h2, _⟩ := dd
    exact ⟨ob, h1, h2.2.1⟩
  · obtain ⟨_, hd, xs, _, dd⟩ := dt_rd I.hok e
    refine ⟨dd.typeIs, fun b q => ?_, hd⟩
    cases q
    obtain ⟨ob, _, _, h1, h2, _⟩ := dd
    exact ⟨ob, h1, h2.2.1⟩
section
variable {X : Cx} {pins : List (Addr × Obj)} {σ : St} {H : Hp} {s : Shared} {a : Addr} {y d : V} {u r : Value} {o : Option V} {A : Around} {E : Value → Shared → Prop}
end
def tDPop1 (td ty : TE) : TE := fun σ H Q => td σ H fun x H1 => ∃ a, x = .ref a ∧ IsD H1 a ∧ ty σ H1 fun y H2 => ∃ kvs k v, H2 a = some (.dK kvs) ∧ y = kV k ∧ valV kvs k = some v ∧ Q v (upd H2 a (.dK (dropK kvs k)))
section
variable {X : Cx} {o e f : Expr} {apos cpos : Pos} {td ty tx : TE}
theorem pe_dpop1 (ho : PE X o td) (he : PE X e ty) (m : M1 X o "pop" apos e cpos) : PE X (.Call (.Attribute o "pop" apos) [e] [] cpos) (tDPop1 td ty) := by
  intro pins s σ H Q I h
  refine wpAny_Call_method m.base m.few m.line PySem.F.plainAttrs_dict PySem.F.slot_dict_pop PySem.F.type_dict_pop (thn (ho pins s σ H _ I h) fun u s1 ⟨x, H1, I1, rx, a, ex, d, q1⟩ => ?_)
  subst ex
  obtain rfl : u = Value.ref a := rx
  obtain ⟨t1, t2, _⟩ := isD_at I1 d
  refine ⟨t1, t2, ?_⟩
  rw [m.trees]
  refine Calls.callWith_builtin rfl (Calls.evalArgs_plain (Calls.spliced_cons (thn (he pins s1 σ H1 _ I1 q1) fun iv s2 ⟨y, H2, I2, ry, kvs, k, v, ea, ey, l, q2⟩ => Calls.spliced_nil ?_)))
  subst ey
  exact d_pop I2 ea ry l (.inl rfl) fun w' s3 I3 rw' => ⟨v, _, I3, rw', q2⟩
end
section
variable {X : Cx} {pins : List (Addr × Obj)} {σ : St} {H : Hp} {s : Shared} {a : Addr} {kvs : List (Key × V)} {A : Around} {E : Value → Shared → Prop}
end
section
variable {X : Cx} {pins : List (Addr × Obj)} {σ : St} {H : Hp} {s : Shared} {a : Addr} {y : V} {u : Value} {A : Around} {E : Value → Shared → Prop}
end
end L2
namespace L2
open PySem PySem.Spec PyProof.Rows
section
variable {prog : Program} {w : World} {A : Around} {E : Value → Shared → Prop}
end
section
variable {X : Cx}
end
end L2
namespace L2
open PySem PySem.Spec PyProof.Rows
section
variable {X : Cx} {pins : List (Addr × Obj)} {σ : St} {H : Hp} {s : Shared} {h' : Heap}
theorem Inv.turnedNew {t' : Nat} {ch : List Addr} {T : Addr} {ob : HO} (I : Inv X pins σ H s) (k : ∀ b o, b ∉ ch → s.heap.get? b = some o → h'.get? b = some o) (hf : ∀ b ∈ ch, FpOk X pins H b) (hT : s.heap.objs.size ≤ T)
    (new : ObjOk X.prog X.w (upd H T ob) h' T ob) : Inv X pins σ (upd H T ob) { s with heap := h', toks := t' } := by
  have hn : H T = none := I.hok.fresh hT
  have nit : ∀ b u, H b = some u → b ∉ ch := fun b u e z => by
    have q := (hf b z).1
    rw [q] at e; cases e
  refine I.step (g' := s.gens) (d' := s.drawn) (ch := ch) (fun b hb => ⟨(hf b hb).2.2.2.1, (hf b hb).2.1, (hf b hb).2.2.2.2.1, (hf b hb).2.2.2.2.2⟩) (fun b o _ _ hc e _ => k b o hc e) (fun b o _ _ hc e _ => ⟨o.slots, k b o hc e⟩)
    (fun b o _ e n => ?_) (fun b o hc e => ⟨o, k b o hc e⟩) (fun b xs e => ?_) (fun b o u e => ?_) (fun b ps e => ⟨#[], ?_⟩) (fun m hm => ?_) (fun b u e => ?_) I.bare
  · rw [upd_ne (Nat.ne_of_lt (Nat.lt_of_lt_of_le (Heap.lt_size e) hT))]; exact n
  · rw [upd_ne (ne_of_none e hn)]; exact e
  · rw [upd_ne (ne_of_none e hn)]; exact e
  · rw [upd_ne (ne_of_none e hn), e]; simp
  · obtain ⟨o, es, ep, ho, r⟩ := hm
    exact ⟨o, es, ep, k _ o (fun z => (hf _ z).2.1 rfl) ho, r⟩
  · by_cases hb : b = T
    · subst hb
      rw [upd_same] at e
      cases e
      exact new
    · rw [upd_ne hb] at e
      refine (I.hok b u e).stay (fun c v hc q => k c v ?_ q) (fun c q => by rw [upd_ne (ne_of_none q hn)]; exact q) fun c xs q => by rw [upd_ne (ne_of_none q hn)]; exact q
      rcases hc with z | z
      · rw [z]; exact nit b u e
      · exact nit c _ z
theorem Inv.lock {d : Addr} {u : HO} (I : Inv X pins σ H s) (h : H d = some u) (mu : Mut (some u)) : ∃ od, Inv X pins σ (upd H d (.frz od u)) s := by
  have x := I.hok d u h
  have ex : ∃ od, s.heap.get? d = some od := by
    cases u with
    | lst xs => obtain ⟨_, _, _, _, e⟩ := x; exact ⟨_, e⟩
    | dK kvs => obtain ⟨_, _, _, _, o, _, _, e, _⟩ := x; exact ⟨o, e⟩
    | dT kvs => obtain ⟨_, _, _, _, o, _, _, e, _⟩ := x; exact ⟨o, e⟩
    | set S n => obtain ⟨o, _, _, _, e, _⟩ := x; exact ⟨o, e⟩
    | ins C dx fs => obtain ⟨_, _, _, e, _⟩ := x; exact ⟨_, e⟩
    | ext φ => obtain ⟨_, ⟨_, e⟩, _⟩ := x; exact ⟨_, e⟩
    | _ => exact False.elim mu
  obtain ⟨od, e⟩ := ex
  have new : ObjOk X.prog X.w (upd H d (.frz od u)) s.heap d (.frz od u) := by
    refine ⟨e, x.stay (fun b v _ q => q) (fun b q => ?_) fun b xs q => ?_⟩
    · rw [upd_ne (fun z => by rw [z, h] at q; cases q; exact mu)]; exact q
    · rw [upd_ne (fun z => by rw [z, h] at q; cases q; exact mu)]; exact q
  exact ⟨od, I.write (x := d) (e := d) (t' := s.toks) (h' := s.heap) (by rw [h]; exact mu) (.inl rfl) (fun b v _ q => q) ⟨od, e⟩ new⟩
theorem Inv.nofrz {d : Addr} {u : HO} (I : Inv X pins σ H s) (h : H d = some u) (mu : Mut (some u)) : ∀ o' u', X.H_0 d ≠ some (.frz o' u') := fun o' u' e => by
  have q := I.base.frzs d o' u' e
  rw [h] at q
  cases q
  exact mu
theorem Inv.unlock {d : Addr} {od : Obj} {u : HO} (I : Inv X pins σ H s) (h : H d = some (.frz od u)) (hn : ∀ o' u', X.H_0 d ≠ some (.frz o' u')) : Inv X pins σ (upd H d u) s := by
  have neH : ∀ b o, H b = some o → (∀ o' u', o ≠ .frz o' u') → b ≠ d := fun b o e hne z => by
    rw [z, h] at e
    cases e
    exact hne _ _ rfl
  have neN : ∀ b, H b = none → b ≠ d := fun b e z => by rw [z, h] at e; cases e
  refine ⟨I.ok, I.os, I.bare, ⟨I.base.keep, I.base.slot, fun b o e n hx => ?_, I.base.there, fun b xs e => ?_, fun b o x e => ?_, fun b ps e => ?_⟩, I.loc, I.cell, ?_, fun x c e => ?_, fun p hp => ?_, fun b o e => ?_, I.len⟩
  · rw [upd_ne (neN b (I.base.free b o e n hx))]; exact I.base.free b o e n hx
  · have q := I.base.tups b xs e
    rw [upd_ne (neH b _ q (fun _ _ z => nomatch z))]; exact q
  · have q := I.base.frzs b o x e
    rw [upd_ne (fun z => by rw [z] at e; exact hn _ _ e)]; exact q
  · obtain ⟨m, q⟩ := I.base.tbls b ps e
    exact ⟨m, by rw [upd_ne (neH b _ q (fun _ _ z => nomatch z))]; exact q⟩
  · rw [upd_ne (neN _ I.free)]; exact I.free
  · rw [upd_ne (neN c (I.freeC x c e))]; exact I.freeC x c e
  · obtain ⟨e, n, r⟩ := I.pin p hp
    exact ⟨e, by rw [upd_ne (neN _ n)]; exact n, r⟩
  · by_cases hb : b = d
    · rw [hb, upd_same] at e
      cases e
      rw [hb]
      obtain ⟨_, x⟩ := I.hok d _ h
      exact x.stay (fun c v _ q => q) (fun c q => by rw [upd_ne (neH c _ q (fun _ _ z => nomatch z))]; exact q) fun c xs q => by rw [upd_ne (neH c _ q (fun _ _ z => nomatch z))]; exact q
    · rw [upd_ne hb] at e
      exact (I.hok b o e).stay (fun c v _ q => q) (fun c q => by rw [upd_ne (neH c _ q (fun _ _ z => nomatch z))]; exact q) fun c xs q => by rw [upd_ne (neH c _ q (fun _ _ z => nomatch z))]; exact q
end
def tLock (t : TS) : TS := fun D σ H => ∃ d u, H d = some u ∧ Mut (some u) ∧ ∀ od, t ⟨fun σ' H' => H' d = some (.frz od u) ∧ D.nx σ' (upd H' d u), fun v H' => H' d = some (.frz od u) ∧ D.rt v (upd H' d u), fun σ' H' => H' d = some (.frz od u) ∧ D.bk σ' (upd H' d u), fun σ' H' => H' d = some (.frz od u) ∧ D.ct σ' (upd H' d u)⟩ σ (upd H d (.frz od u))
def tLockE (t : TE) : TE := fun σ H Q => ∃ d u, H d = some u ∧ Mut (some u) ∧ ∀ od, t σ (upd H d (.frz od u)) fun v H' => H' d = some (.frz od u) ∧ Q v (upd H' d u)
section
variable {X : Cx}
theorem ps_lock {st : Stmt} {t : TS} (h : PS X st t) : PS X st (tLock t) := by
  intro pins s σ H D I hw
  obtain ⟨d, u, hd, mu, hw⟩ := hw
  obtain ⟨od, I1⟩ := I.lock hd mu
  refine thn (h pins s σ _ _ I1 (hw od)) fun f s1 q => ?_
  cases f with
  | next => obtain ⟨σ', H', I2, e, q⟩ := q; exact ⟨σ', _, I2.unlock e (I.nofrz hd mu), q⟩
  | brk => obtain ⟨σ', H', I2, e, q⟩ := q; exact ⟨σ', _, I2.unlock e (I.nofrz hd mu), q⟩
  | cont => obtain ⟨σ', H', I2, e, q⟩ := q; exact ⟨σ', _, I2.unlock e (I.nofrz hd mu), q⟩
  | ret v => obtain ⟨x, σ', H', I2, r, e, q⟩ := q; exact ⟨x, σ', _, I2.unlock e (I.nofrz hd mu), r, q⟩
theorem pe_lock {e : Expr} {t : TE} (h : PE X e t) : PE X e (tLockE t) := by
  intro pins s σ H Q I hw
  obtain ⟨d, u, hd, mu, hw⟩ := hw
  obtain ⟨od, I1⟩ := I.lock hd mu
  refine thn (h pins s σ _ _ I1 (hw od)) fun v s1 ⟨x, H1, I2, r, e2, q⟩ => ?_
  exact ⟨x, _, I2.unlock e2 (I.nofrz hd mu), r, q⟩
theorem pi_one {tg : Expr} {pins : List (Addr × Obj)} {σ : St} {H : Hp} {s : Shared} {R : It → Hp → Prop} {J : It} {tn : Nat → Heap → Prop} {tk : Nat} (I : Inv X pins σ H s) (o : Obj)
    (T : Turn X.prog X.w X.K tg J [s.heap.objs.size] s.heap.objs.size tn) (st : tn 0 (s.heap.push o)) (q : R J H) : PIE X pins σ tg R (.ref s.heap.objs.size) { s with heap := s.heap.push o, toks := tk } := by
  refine ⟨s.heap.objs.size, [s.heap.objs.size], tn, J, H, rfl, I.kept fun b ob e => Heap.get?_push_of_some _ e, T, st, fun b hb => ?_, q⟩
  have e : b = s.heap.objs.size := by simpa using hb
  subst e
  exact I.fpOk (Nat.le_refl _) (I.hok.fresh (Nat.le_refl _))
end
section
variable {X : Cx} {tg : Expr}
end
section
variable {X : Cx} {tg : Expr}
end
section
variable {prog : Program} {w : World} {A : Around} {E : Value → Shared → Prop} {s : Shared}
end
theorem kv_get {κ : Type} {kvs : List (κ × V)} {vs : List (κ × Value)} (h : KV kvs vs) : ∀ {i : Nat} {k : κ} {v : V}, kvs[i]? = some (k, v) → ∃ u, vs[i]? = some (k, u) ∧ RelV v u := by
  unfold KV at h
  induction h with
  | nil => intro i k v e; simp at e
  | @cons a b l₁ l₂ r t ih =>
    intro i k v e
    cases i with
    | zero =>
      simp only [List.getElem?_cons_zero, Option.some.injEq] at e
      subst e
      refine ⟨b.2, ?_, r.2⟩
      simp only [List.getElem?_cons_zero]
      exact congrArg some (Prod.ext r.1.symm rfl)
    | succ j =>
      simp only [List.getElem?_cons_succ] at e ⊢
      exact ih e
section
variable {X : Cx} {pins : List (Addr × Obj)} {σ : St} {H : Hp} {s : Shared} {d : Addr} {o : Obj}
theorem Inv.frzK {kvs : List (Key × V)} (I : Inv X pins σ H s) (h : H d = some (.frz o (.dK kvs))) :
    (d == sysModules) = false ∧ s.heap.get? d = some o ∧ o.ExactDict ∧ ∃ (es : Array DictEntry) (ep : Nat) (vs : List (Key × Value)), o.data = .dict es ep ∧ es.size = kvs.length ∧ KV kvs vs ∧ s.heap.DictAt (mixKind X.prog X.w) d vs ep := by
  obtain ⟨hd, z, hs, vs, kv, o', es, ep, ho, hx, hdt, r⟩ := I.hok d _ h
  rw [hd] at ho
  cases ho
  refine ⟨hs, hd, hx, es, ep, vs, hdt, ?_, kv, o, es, hd, hx, hdt, r⟩
  have l1 := r.2.1.length
  have l2 : kvs.length = vs.length := Paired.length kv
  rw [Array.length_toList] at l1
  omega
end
def Itd (d : Addr) (o : Obj) (kvs : List (Key × V)) : It :=
  ⟨fun i H => H d = some (.frz o (.dK kvs)) ∧ i < kvs.length, fun i H x H' => H' = H ∧ ∃ k, kvs[i]? = some (k, x), fun i H => H d = some (.frz o (.dK kvs)) ∧ kvs.length ≤ i⟩
theorem dict_ep {o : Obj} {es es' : Array DictEntry} {ep ep' : Nat} (h : o.data = .dict es ep) (h' : o.data = .dict es' ep') : es' = es ∧ ep' = ep := by
  rw [h] at h'
  cases h'
  exact ⟨rfl, rfl⟩
section
variable {P : Program} {w : World} {K : PySem.W.Frag} {tg : Expr} {d : Addr} {o : Obj} {es : Array DictEntry} {ep : Nat}
theorem turn_vals {kvs : List (Key × V)} (it : Addr) (hod : o.data = .dict es ep) : Turn P w K tg (Itd d o kvs) [it] it (fun i h => h.IsValIter it d i kvs.length ep) where
  mem := by simp
  obj := fun i h st b hb => by
    have e : b = it := by simpa using hb
    subst e
    obtain ⟨oi, e, c, dd⟩ := st
    exact ⟨oi, e, fun v z => by rw [dd] at z; cases z⟩
  keep := fun i h h' st k => st.at fun oi e => k it (by simp) oi e
  item := by
    intro X hP hw hK hc i pins s σ H E I hf st hg
    subst hP hw hK
    obtain ⟨hd, hi⟩ := hg
    obtain ⟨f0, f1, f2, f3, f4, f5⟩ := hf it (by simp)
    obtain ⟨hs, hgd, hx, es', ep', vs, hdt, hsz, kv, hm⟩ := I.frzK hd
    obtain ⟨rfl, rfl⟩ := dict_ep hod hdt
    obtain ⟨⟨k, v⟩, hkv⟩ : ∃ p, kvs[i]? = some p := ⟨kvs[i], List.getElem?_eq_getElem hi⟩
    obtain ⟨u, hu, ru⟩ := kv_get kv hkv
    have hl : kvs.length = vs.length := Paired.length kv
    rw [hl] at st
    refine wpAny_pyNext_values_item st hm hu fun h' st' sb => ?_
    have I1 : Inv X pins σ H { s with heap := h' } := I.turned (t' := s.toks) (fun b ob hb e => (sb.2 b hb).trans e) f0 f1 f3 f4 f5
    obtain ⟨oi, e, c, dd⟩ := id st'
    refine ⟨u, rfl, go_of (s := { s with heap := h' }) e c dd (by decide) ⟨v, H, I1, ru, ⟨rfl, k, hkv⟩, ?_, fun b hb => (hf b hb).1⟩⟩
    show h'.IsValIter it d (i + 1) kvs.length _
    rw [hl]
    exact st'
  done := by
    intro X hP hw hK hc i pins s σ H E I hf st hg
    subst hP hw hK
    obtain ⟨hd, hi⟩ := hg
    obtain ⟨f0, f1, f2, f3, f4, f5⟩ := hf it (by simp)
    obtain ⟨hs, hgd, hx, es', ep', vs, hdt, hsz, kv, hm⟩ := I.frzK hd
    obtain ⟨rfl, rfl⟩ := dict_ep hod hdt
    have hl : kvs.length = vs.length := Paired.length kv
    rw [hl] at st
    exact wpAny_pyNext_values_end (I.ok.hd hc) st hm (List.getElem?_eq_none (by omega)) fun h' eb => ⟨rfl, I.turned (t' := s.toks) (fun b ob hb e => eb b ob hb e) f0 f1 f3 f4 f5⟩
  self := fun A i s Q E st h => wpAny_pyIter_valiter st h
end
def iVals (td : TE) : TI := fun σ H R => td σ H fun x H1 => ∃ d o kvs, x = .ref d ∧ H1 d = some (.frz o (.dK kvs)) ∧ R (Itd d o kvs) H1
section
variable {X : Cx} {tg e : Expr} {td : TE} {apos cpos : Pos}
theorem pi_values (he : PE X e td) (hbase : attributeBase e "values" X.env (eval e X.env) = eval e X.env := by rfl) (hline : (apos.endLine == cpos.line) = true := by rfl) : PI X tg (.Call (.Attribute e "values" apos) [] [] cpos) (iVals td) := by
  intro pins s σ H R I h
  refine wpAny_Call_method (T := "dict") (id := "dict.values") hbase rfl hline F.plainAttrs_dict F.slot_dict_values F.type_dict_values (thn (he pins s σ H _ I h) fun u s1 ⟨x, H1, I1, rx, d, o, kvs, ex, hd, q⟩ => ?_)
  subst ex
  obtain rfl : u = Value.ref d := rx
  obtain ⟨hs, hgd, hx, es, ep, vs, hdt, hsz, kv, hm⟩ := I1.frzK hd
  have hl : kvs.length = vs.length := Paired.length kv
  refine ⟨hm.dictOf.typeIs, hm.dictOf.mapOf.noDict, ?_⟩
  have I2 : Inv X pins σ H1 { s1 with heap := s1.heap.push { cls := .type "dict_values", data := .fields #[.ref d] } } := I1.kept (t' := s1.toks) fun b ob q => Heap.get?_push_of_some _ q
  have fin : wpAny (model X.prog X.w) X.A (pyIter (.ref s1.heap.objs.size)) (PIE X pins σ tg R) X.xe { s1 with heap := s1.heap.push { cls := .type "dict_values", data := .fields #[.ref d] } } := by
    refine wpAny_pyIter_values (d := d) (knd := mixKind X.prog X.w) ⟨_, Heap.get?_push_size _ rfl, rfl, rfl⟩ (hm.push _) (pi_one (tk := s1.toks) I2 _ (turn_vals _ hdt) ⟨_, Heap.get?_push_size _ rfl, rfl, ?_⟩ q)
    rw [hl] <;> rfl
  show wpAny _ _ (callWith cpos (.builtin "dict.values") [.ref d] [] []) _ X.xe s1
  exact method_meetsIn F.slot_dict_values F.entry_dict_values rfl (PySem.evalArgs_none ⟨rfl, hm.dictOf.typeIs, F.args_dict_values_1 _, _, meets_dict_values (mixKind X.prog X.w) d hs, ⟨vs, hm.dictOf⟩, fin⟩)
end
def Ite (K : PySem.W.Frag) (a : Addr) : It :=
  ⟨fun i H => ∃ (xs : List V) (x : V), SqL K H a xs ∧ xs[i]? = some x, fun i H v H' => ∃ T x, v = .ref T ∧ H T = none ∧ H' = upd H T (.tup [.int (i : Nat), x]) ∧ ∀ xs, SqL K H a xs → xs[i]? = some x, fun i H => ∃ xs : List V, SqL K H a xs ∧ xs.length ≤ i⟩
theorem turn_enum {P : Program} {w : World} {K : PySem.W.Frag} {elts : List Expr} {kk : Nat} {tpos : Pos} (a e it : Addr) :
    Turn P w K (.Tuple elts kk tpos) (Ite K a) [e, it] e (fun i h => (∃ old, IsEnum h e it ((i : Nat) : Int) old) ∧ h.IsListIter it a i ∧ e ≠ it) where
  mem := by simp
  obj := fun i h st b hb => by
    obtain ⟨⟨old, he⟩, ⟨o, ho, hc, hd⟩, _⟩ := st
    have e' : b = e ∨ b = it := by simpa using hb
    rcases e' with z | z
    · rw [z]; exact ⟨_, he, fun v q => nomatch q⟩
    · rw [z]; exact ⟨o, ho, fun v q => by rw [hd] at q; cases q⟩
  keep := fun i h h' st k => let ⟨⟨old, he⟩, hi, hne⟩ := st; ⟨⟨old, k e (by simp) _ he⟩, hi.at fun o q => k it (by simp) o q, hne⟩
  item := by
    intro X hP hw hK hc i pins s σ H E I hf st hg
    subst hP hw hK
    obtain ⟨⟨old, he⟩, hit, hne⟩ := st
    obtain ⟨xs, x, hq, hx⟩ := hg
    obtain ⟨its, rv, p, hz⟩ := I.list hq
    obtain ⟨u, hu, ru⟩ := rv.get hx
    have hel : e < s.heap.objs.size := Heap.lt_size he
    have hil : it < s.heap.objs.size := by obtain ⟨_, q, _⟩ := hit; exact Heap.lt_size q
    refine wpAny_pyNext_enum_item he hit p.isList (x := u) (by simpa using hu) hne fun h' ho hit' hT hsz hk => ?_
    refine ⟨_, rfl, wpAny_letOwnedTupleGo_enum (s := { s with heap := h', toks := s.toks + 1 }) ho fun h'' he' sb => ?_⟩
    have hT2 : h''.get? s.heap.objs.size = some { cls := .type "tuple", data := .seq #[.int i s.toks, u] } := (sb.2 _ (Nat.ne_of_gt hel)).trans hT
    have new : ObjOk X.prog X.w (upd H s.heap.objs.size (.tup [.int (i : Nat), x])) h'' s.heap.objs.size (.tup [.int (i : Nat), x]) :=
      ⟨by show 2 ≤ sizeLine; decide, [.int i s.toks, u], .cons ⟨_, rfl⟩ (.cons ru .nil), ⟨_, hT2, rfl, _, rfl⟩⟩
    have I1 : Inv X pins σ (upd H s.heap.objs.size (.tup [.int (i : Nat), x])) { s with heap := h'', toks := s.toks + 1 } :=
      I.turnedNew (ch := [e, it]) (fun b ob hb q => (sb.2 b (fun z => hb (by simp [z]))).trans (hk b ob (fun z => hb (by simp [z])) (fun z => hb (by simp [z])) q)) hf (Nat.le_refl _) new
    refine ⟨.ref s.heap.objs.size, _, I1, rfl, ⟨_, x, rfl, I.hok.fresh (Nat.le_refl _), rfl, fun ys hy => by rw [I.list_inj hy hq]; exact hx⟩, ⟨⟨u, ?_⟩, hit'.at fun o q => (sb.2 it (Ne.symm hne)).trans q, hne⟩, fun b hb => ?_⟩
    · have e1 : ((i + 1 : Nat) : Int) = (i : Int) + 1 := by omega
      rw [e1]; exact he'
    · have hb' : b < s.heap.objs.size := by
        have e' : b = e ∨ b = it := by simpa using hb
        rcases e' with z | z
        · rw [z]; exact hel
        · rw [z]; exact hil
      rw [upd_ne (Nat.ne_of_lt hb')]
      exact (hf b hb).1
  done := by
    intro X hP hw hK hc i pins s σ H E I hf st hg
    subst hP hw hK
    obtain ⟨⟨old, he⟩, hit, hne⟩ := st
    obtain ⟨xs, hq, hx⟩ := hg
    obtain ⟨its, rv, p, hz⟩ := I.list hq
    obtain ⟨f0, f1, f2, f3, f4, f5⟩ := hf it (by simp)
    have hl := rv.length
    exact wpAny_pyNext_enum_end (I.ok.hd hc) he hit p.isList (by simp; omega) fun h' eb => ⟨rfl, I.turned (t' := s.toks) (fun b o hb q => eb b o hb q) f0 f1 f3 f4 f5⟩
  self := fun A i s Q E st h => let ⟨⟨_, he⟩, _⟩ := st; wpAny_pyIter_enum he h
def iEnum (K : PySem.W.Frag) (ta : TA) : TI := fun σ H R => ta σ H fun vs H1 => ∃ a xs, vs = [.ref a] ∧ SqL K H1 a xs ∧ R (Ite K a) H1
theorem pi_enum {X : Cx} {e : Expr} {ta : TA} {p pos tpos : Pos} {elts : List Expr} {kk : Nat} (hg : Gl X "enumerate") (hm : X.mg "enumerate" = none) (ha : PA X [e] ta) (hs : starEach [e] X.env = [(false, eval e X.env)] := by rfl) :
    PI X (.Tuple elts kk tpos) (.Call (.Name "enumerate" p) [e] [] pos) (iEnum X.K ta) := by
  intro pins s σ H R I h
  refine Call_ (ld_blt I hg hm boot_enumerate (PyProof.Rows.callWith_type1 (thn (ha pos pins s σ H _ I h) fun us s1 ⟨vs, H1, I1, r1, q1⟩ => ?_) hs rfl))
  obtain ⟨a, xs, ex, hq, q⟩ := q1
  subst ex
  cases r1 with
  | cons r rr =>
    cases rr
    cases r
    obtain ⟨its, rv, p', hz⟩ := I1.list hq
    refine call_enumerate_list p'.isList fun h' he hit hsz hk => wpAny_pyIter_enum he ?_
    have I2 : Inv X pins σ H1 { s1 with heap := h' } := I1.kept (t' := s1.toks) hk
    refine ⟨s1.heap.objs.size + 1, [s1.heap.objs.size + 1, s1.heap.objs.size], _, _, H1, rfl, I2, turn_enum a (s1.heap.objs.size + 1) s1.heap.objs.size, ⟨⟨.none, he⟩, hit, Nat.succ_ne_self _⟩, fun b hb => ?_, q⟩
    have e' : b = s1.heap.objs.size + 1 ∨ b = s1.heap.objs.size := by simpa using hb
    have hle : s1.heap.objs.size ≤ b := by
      rcases e' with z | z
      · rw [z]; exact Nat.le_add_right _ _
      · rw [z]; exact Nat.le_refl _
    exact I1.fpOk hle (I1.hok.fresh hle)
end L2
section 
namespace Bits
open PySem PyProof.Rows
end Bits
end 
section 
namespace TL
open PySem PySem.Builtin PySem.Builtin.Str PySem.StrLaws
end TL
end 
namespace L2
open PySem PySem.Spec PyProof.Rows
section
variable {X : Cx} {pins : List (Addr × Obj)} {σ : St} {H : Hp} {s : Shared} {Q : VK}
end
section
variable {X : Cx}
end
section
variable {X : Cx} {o e : Expr} {to te : TE}
end
end L2
namespace L2
open PySem PySem.Spec PyProof.Rows
section
variable {X : Cx}
end
end L2
namespace Att
open PySem PySem.W PySem.Calls PyProof.Rows
section
variable {prog : Program} {w : World} {A : Around} {E : Value → Shared → Prop} {s : Shared} {K : Frag}
end
end Att
namespace L2
open PySem PySem.Spec PyProof.Rows
end L2
namespace L2
open PySem PySem.Spec PyProof.Rows
end L2
namespace L2
open PySem PySem.Spec PyProof.Rows
abbrev CX0 : CXT := fun _ _ _ _ _ _ => False
abbrev E0 : XK := fun _ _ _ => False
theorem pass0 {X : Cx} : Passes CX0 X E0 := fun _ _ _ _ _ _ _ h => h.elim
structure Fun (K : PySem.W.Frag) (x qual : Str) (st : Stmt) (f : Addr) (fd : FuncData) : Prop where
  ex : ∃ (oc : Value) (od : Option Addr) (kV doc pm : Value) (an : Option Addr) (cdv ct : Value) (osl : Array (Option Value)),
    fd = PySem.W.fnOf x qual (defArgs st) (defBody st) (defScope st) .none kV doc pm an cdv ct ∧ K.lookup f = some ⟨oc, od, .func fd, osl⟩ ∧ PySem.W.codeIn K cdv qual = true
  kp : PySem.W.keepIn K (.ref f) = true
section
variable {P : Program} {w : World} {K : PySem.W.Frag} {mg : Str → Option Value} {base : Heap}
theorem Fun.ok {x qual : Str} {st : Stmt} {f : Addr} {fd : FuncData} {N ps : List Str} {k : Nat} {sp : Sp} (F : Fun K x qual st f fd) (S : FnScope N ps (defScope st)) (len : ∀ vs H Q E, sp vs H Q E → vs.length = ps.length)
    (hbody : ∀ (cdv : Value) (A : Around) (outer : List Env) (s : Shared) (H : Hp) (vs : List V) (Q : VK) (E : XK), Room k (A.deeper (envOfC qual (defScope st) s.heap.objs.size f cdv)) → sp vs H Q E →
      ∃ t, PSs (cxOf CX0 P w K mg base N qual (defScope st) f cdv A outer s H E).nox (defBody st) t ∧ t { nx := fun _ H' => Q .non H', rt := Q } (start N vs) H) : FnOk P w K mg base CX0 (k + 1) f fd ps sp := by
  obtain ⟨oc, od, kV, doc, pm, an, cdv, ct, osl, rfl, lk, hcd⟩ := F.ex
  refine fn_of lk hcd S len fun A outer s H vs Q E hr hsp => ?_
  obtain ⟨t, h, q⟩ := hbody cdv A outer s H vs Q E hr hsp
  exact ⟨t, h.nox, q⟩
theorem Fun.binds {x qual : Str} {st : Stmt} {f : Addr} {fd : FuncData} {ps : List Str} (F : Fun K x qual st f fd)
    (h : ∀ (kV doc pm : Value) (an : Option Addr) (cdv ct : Value) (us : List Value), us.length = ps.length → bindArgs (PySem.W.fnOf x qual (defArgs st) (defBody st) (defScope st) .none kV doc pm an cdv ct) ⟨us, []⟩ = pure (ps.zip us)) : Binds K fd ps [] := by
  obtain ⟨oc, od, kV, doc, pm, an, cdv, ct, osl, rfl, lk, hcd⟩ := F.ex
  exact .all (h kV doc pm an cdv ct)
theorem fun_mk {x qual : Str} {st : Stmt} {f : Addr} {oc : Value} {od an : Option Addr} {osl : Array (Option Value)} {kV doc pm cdv ct : Value} (l : K.lookup f = some ⟨oc, od, .func (PySem.W.fnOf x qual (defArgs st) (defBody st) (defScope st) .none kV doc pm an cdv ct), osl⟩)
    (c : PySem.W.codeIn K cdv qual = true) (k : PySem.W.keepIn K (.ref f) = true) : Fun K x qual st f (PySem.W.fnOf x qual (defArgs st) (defBody st) (defScope st) .none kV doc pm an cdv ct) := ⟨⟨oc, od, kV, doc, pm, an, cdv, ct, osl, rfl, l, c⟩, k⟩
end
theorem hu_of {A : Around} {k : Nat} (hr : Room k A) : A.units + 1 < cLine := Nat.lt_of_le_of_lt (Nat.add_le_add_left (by decide : 1 ≤ 64) _) hr.units
section
variable {X : Cx}
theorem pv (i : Nat) {x : Str} {pos : Pos} (hN : X.N[i]? = some x := by rfl) (hv : Vis X.env.scope x := by first | exact Or.inl rfl | exact Or.inr (Or.inl rfl) | exact Or.inr (Or.inr rfl)) (hd : (x == ("__debug__" : Str)) = false := by decide)
    (hcd : (x == ("__classdict__" : Str)) = false := by decide) : PE X (.Name x pos) (tVar i) := pe_var hN hv hd hcd
theorem call_lenD : CallR X (.builtin "len") (fun xs H Q => ∃ a kvs, xs = [V.ref a] ∧ H a = some (.dK kvs) ∧ Q (.int kvs.length) H) := by
  intro pins s σ H xs us Q I r h
  obtain ⟨a, kvs, rfl, ha, q⟩ := h
  obtain ⟨u, rfl, ru⟩ := vals1 r
  cases ru
  exact d_len I (.inl ha) fun t s' I' => ⟨.int kvs.length, H, I', ⟨t, rfl⟩, q⟩
end
theorem iteF {A B : Prop} (h : B) : if false = true then A else B := by
  rw [if_neg Bool.false_ne_true]
  exact h
theorem iteT {A B : Prop} (h : A) : if true = true then A else B := by
  rw [if_pos rfl]
  exact h
theorem ite2 {c A B : Prop} [Decidable c] (h1 : c → A) (h2 : ¬ c → B) : if c then A else B := by
  by_cases h : c
  · rw [if_pos h]
    exact h1 h
  · rw [if_neg h]
    exact h2 h
def Same (H H' : Hp) : Prop := ∀ b o, H b = some o → H' b = some o
theorem Same.refl (H : Hp) : Same H H := fun _ _ h => h
theorem Same.trans {H H1 H2 : Hp} (a : Same H H1) (b : Same H1 H2) : Same H H2 := fun c o h => b c o (a c o h)
theorem Same.free {H H' : Hp} (e : Same H H') {l : Addr} (h : H' l = Option.none) : H l = Option.none := by
  cases q : H l with
  | none => rfl
  | some o =>
    rw [e l o q] at h
    cases h
theorem Same.seq {K : PySem.W.Frag} {H H' : Hp} {a : Addr} {xs : List V} (e : Same H H') (h : SqL K H a xs) : SqL K H' a xs := by
  rcases h with (h | ⟨o, h⟩) | h
  · exact .inl (.inl (e _ _ h))
  · exact .inl (.inr ⟨o, e _ _ h⟩)
  · exact .inr h
section
variable {κ : Type} [DecidableEq κ]
end
theorem at_of {xs : List V} {z : Int} {j : Nat} {v : V} (e : z = (j : Int)) (h : xs[j]? = some v) : atI xs z = some v := by
  rw [e]
  exact atI_nat h
theorem Same.made {H H1 : Hp} {x dx C : Addr} (nx : H x = Option.none) (nd : H dx = Option.none) (k : ∀ b o, (upd (upd H dx (.own x)) x (.ins C dx [])) b = some o → b ≠ x → H1 b = some o) : Same H H1 := fun b o e =>
  k b o (by rw [upd_ne (ne_of_none e nx), upd_ne (ne_of_none e nd)]; exact e) (ne_of_none e nx)
end L2
end
section
set_option Elab.async false
set_option linter.all false
set_option maxRecDepth 100000
set_option maxHeartbeats 2000000
namespace L2
open PySem PySem.Spec PyProof.Rows
section
variable {X : Cx}
/-- a module's number -/
def GInt (mg : Str → Option Value) (x : Str) (c : Int) : Prop := ∃ t, mg x = some (.int c t)
theorem pe_gint {x : Str} {c : Int} {pos : Pos} (hg : Gl X x) (h : GInt X.mg x c) (hd : (x == ("__debug__" : Str)) = false := by decide) : PE X (.Name x pos) (tC (.int c)) := by
  obtain ⟨t, h⟩ := h
  exact pe_glob hg h ⟨t, rfl⟩ hd
theorem get_list : PGet X (rIxL X.K) := by
  intro pins s σ H x y v u Q I rx ry h
  obtain ⟨p, xs, i, z, rfl, rfl, hq, he, q⟩ := h
  cases rx
  obtain ⟨t, rfl⟩ := ry
  obtain ⟨its, r, pl, hz⟩ := I.list hq
  obtain ⟨j, h1, h2, h3, h4, h5⟩ := atI_get he
  obtain ⟨w, ew, rw'⟩ := r.get h2
  have hl := r.length
  have hn := line63
  have fin : EP X pins σ Q w s := ⟨z, H, I, rw', q⟩
  by_cases h0 : 0 ≤ i
  · have hj : i.toNat = j := by
      rw [seqIndex_of h0 h5] at h1
      exact Option.some.inj h1
    exact wpAny_getItem_list pl.isList h0 (by omega) (by rw [hj]; simpa using ew) fin
  · have hj : (i + (its.toArray.size : Int)).toNat = j := by
      rw [seqIndex_neg (by omega) h4] at h1
      rw [List.size_toArray, ← hl]
      exact Option.some.inj h1
    exact wpAny_getItem_list_neg pl.isList (by omega) (by rw [List.size_toArray] <;> omega) (by omega) (by rw [hj]; simpa using ew) fin
/-- xs.count(k), ints -/
def rCount (K : PySem.W.Frag) : V → List V → Hp → VK → Prop := fun x xs H Q => ∃ (a : Addr) (ns : List Int) (k : Int), x = V.ref a ∧ xs = [V.int k] ∧ SqL K H a (ns.map V.int) ∧ Q (.int (ns.count k : Nat)) H
theorem mt_lcount : MtR X "list.count" (rCount X.K) := by
  intro pins s σ H x xs v us Q I rx rxs h
  obtain ⟨a, ns, k, rfl, rfl, hs, q⟩ := h
  cases rx
  cases rxs with
  | cons ry rt =>
    cases rt
    obtain ⟨t, rfl⟩ := ry
    obtain ⟨its, rv, pl, hlen⟩ := I.list hs
    refine count_list_ints pl.isList rv.ints ?_
    exact ⟨.int _, H, I.tok _, ⟨_, rfl⟩, q⟩
/-- sorted(d), d a dict of ints, fewer than 64 -/
def rSortedD : List V → Hp → VK → Prop := fun vs H Q => ∃ (d : Addr) (kvs : List (Key × V)) (ns : List Int), vs = [V.ref d] ∧ H d = some (.dK kvs) ∧ kvs.map (·.1) = ns.map Sum.inl ∧ ns.length < 64 ∧
  ∀ (ns' : List Int) (p : Addr), ns'.Perm ns → ns'.Pairwise (· ≤ ·) → H p = none → Q (.ref p) (upd H p (.lst (ns'.map V.int)))
theorem cr_sortedD (hc : X.calm = true) : CallR X (.builtin "sorted") rSortedD := by
  intro pins s σ H vs us Q I r h
  obtain ⟨d, kvs, ns, rfl, hd, hk, h64, q⟩ := h
  obtain ⟨hz, hlo, vs, kv, dd⟩ := I.hok d _ hd
  rw [Vals.ref1 r]
  have hl : kvs.length = vs.length := Paired.length kv
  have hln : kvs.length = ns.length := by have := congrArg List.length hk; simpa using this
  obtain ⟨ep, hat⟩ := dd.dictAt
  have hI0 : ∀ (n : Nat) (l : List (Key × V)) (l2 : List (Key × Value)), Paired (fun (p : Key × V) (q : Key × Value) => p.1 = q.1 ∧ RelV p.2 q.2) l l2 → ∀ (k : Key) (x : Value), l2[n]? = some (k, x) → (l.map (·.1))[n]? = some k := by
    intro n l l2 hp
    induction hp generalizing n with
    | nil => intro k x e; simp at e
    | cons a b ih =>
      intro k x e
      cases n with
      | zero => simp at e ⊢; rw [a.1, e]
      | succ n => simp at e ⊢; have := ih n k x e; simpa using this
  refine Calls.call_function_entry kind_sorted plain_sorted entry_sorted (args_sorted1 _) ?_
  unfold Builtin.«sorted»
  refine wpAny_bind (m := checkCount "sorted" 1 1 _) (wpAny_pure ?_)
  refine wpAny_bind (PySem.W.kdu_collect (A := X.A.in1) (PySem.W.kdl_dict (knd := mixKind X.prog X.w) (kvs := vs) (ep := ep) hlo) (by show X.A.handled = none; exact I.ok.hd hc) hat (by rw [← hl]; exact hz) fun h' tk acc hkp hacc => ?_)
  have hla : acc.toList.length = vs.length := by rw [Array.length_toList]; exact hacc.1
  have hI : IntsAre acc.toList ns := by
    have key : ∀ (us : List Value) (ms : List Int), us.length = ms.length → (∀ (i : Nat) (v : Value), us[i]? = some v → ∃ z t, ms[i]? = some z ∧ v = Value.int z t) → IntsAre us ms := by
      intro us
      induction us with
      | nil => intro ms e _; cases ms with
        | nil => exact .nil
        | cons a b => simp at e
      | cons u us ih =>
        intro ms e f
        cases ms with
        | nil => simp at e
        | cons m ms =>
          obtain ⟨z, t, h1, h2⟩ := f 0 u rfl
          have h1 : m = z := by simpa using h1
          subst h1 h2
          exact .cons _ _ (ih ms (by simpa using e) fun i v hv => by simpa using f (i + 1) v (by simpa using hv))
    refine key _ _ (by rw [hla, ← hl, hln]) fun i v hv => ?_
    obtain ⟨k, x, hx, hkv⟩ := hacc.2 i v (by rw [← Array.getElem?_toList]; exact hv)
    have e := hI0 i _ _ kv k x hx
    rw [hk, List.getElem?_map] at e
    cases en : ns[i]? with
    | none => rw [en] at e; cases e
    | some z =>
      rw [en] at e
      have e : Sum.inl z = k := Option.some.inj e
      subst e
      rcases keyIs_shape (k := Sum.inl z) (v := v) hkv with ⟨i', t', e1, e2⟩ | ⟨x', t', e1, _⟩
      · have e1 : z = i' := Sum.inl.inj e1
        subst e1
        exact ⟨_, t', rfl, e2⟩
      · cases e1
  have hlN : acc.toList.length = ns.length := hI.length
  have hll : acc.toList.length ≤ sizeLine := by rw [hlN]; exact small64 h64
  refine wpAny_bind (wpAny_newList ?_ hll)
  have hoL : (h'.push { cls := .type "list", data := .seq acc.toList.toArray }).get? h'.objs.size = some (seqObj "list" acc.toList.toArray 0) := Heap.get?_push_size _ rfl
  have I1 : Inv X pins σ H { s with heap := h', toks := tk } := I.kept hkp
  refine wpAny_bind (wpAny_holding (wpAny_call_entry slot_list_sort ⟨_, hoL, rfl⟩ entry_list_sort (list_sort_tree hoL hI (by rw [hlN]; exact h64) fun out ns' a1 a2 a3 => ⟨_, rfl, ?_⟩) (args_list_sort _)))
  refine wpAny_pure ⟨_, rfl, ?_⟩
  obtain ⟨ep', he'⟩ := sortedHeap_at (vs := acc.toList) (out := out) hoL
  have hlen : (ns'.map V.int).length ≤ sizeLine := by rw [List.length_map, a2.length_eq]; exact small64 h64
  refine ⟨.ref _, upd H h'.objs.size (.lst (ns'.map V.int)), I1.laid (t' := tk) (fun b u hu => ?_) (Nat.le_refl _) ⟨hlen, out.toList, ep', vals_of_ints a1, he'⟩, rfl, q ns' _ a2 a3 (I1.hok.fresh (Nat.le_refl _))⟩
  have hb : b < h'.objs.size := Heap.lt_size hu
  rw [sortedHeap_old (Nat.ne_of_lt hb) (by rw [size_push']; exact Nat.lt_succ_of_lt hb)]
  exact Heap.get?_push_of_some _ hu
/-- f(e, ..), f a local name that holds a def of the text -/
def tCallV (X : Cx) (tx : TE) (t : TA) : TE := fun σ H Q => tx σ H fun v H1 => ∃ (f : Addr) (k : Nat) (fd : FuncData) (ps : List Str) (sp : Sp), v = .ref f ∧ FnOk X.prog X.w X.K X.mg X.base CX0 k f fd ps sp ∧ Room k X.A ∧ PySem.W.keepIn X.K (.ref f) = true ∧ Binds X.K fd ps [] ∧
  t σ H1 fun vs H2 => sp vs H2 Q E0
theorem pe_callV {x : Str} {p pos : Pos} {e : Expr} {es : List Expr} {tx : TE} {t : TA} (hv : PE X (.Name x p) tx) (ha : PA X (e :: es) t) (he : starEach (e :: es) X.env = (false, eval e X.env) :: starEach es X.env := by rfl) (hpl : (backTo pos (starEach es X.env)).any (·.1) = false := by rfl) :
    PE X (.Call (.Name x p) (e :: es) [] pos) (tCallV X tx t) := by
  intro pins s σ H Q I h
  refine wpAny_Call_Name_kw (thn (hv pins s σ H _ I h) fun u s0 ⟨v, H0, I0, rv, f, k, fd, ps, sp, ev, F, hr, hk, hb, q⟩ => ?_)
  subst ev
  obtain rfl : u = Value.ref f := rv
  refine PySem.W.callWith_K (h₀ := X.base) I.ok.mod.kin hk (thn (ha pos pins s0 σ H0 _ I0 q) fun us s1 ⟨vs, H1, I1, r, q1⟩ => ⟨I1.kIn, ?_⟩) he hpl
  exact run_fn (ds := []) (dvs := []) F hr hb .nil pass0 I1 r (by rw [List.append_nil]; exact q1)
/-! a dict of the module: ints to defs -/
def intEnt : Value → Int → Bool
  | .int i _, k => decide (i = k)
  | _, _ => false
def refIs : Value → Addr → Bool
  | .ref a, b => decide (a = b)
  | _, _ => false
def intEnts : List DictEntry → List (Int × Addr) → Bool
  | [], [] => true
  | e :: es, (k, a) :: l => intEnt e.key k && decide (e.hash = hashInt k) && refIs e.val a && intEnts es l
  | _, _ => false
theorem intEnts_find : ∀ {es : List DictEntry} {l : List (Int × Addr)}, intEnts es l = true → ∀ k : Int, (es.find? fun e => Value.isInt k e.key).map (·.val) = ((l.find? fun p => decide (p.1 = k)).map fun p => Value.ref p.2) ∧ ∀ e ∈ es, ∃ k, Value.isInt k e.key = true ∧ e.hash = hashInt k
  | [], [], _, k => ⟨rfl, fun e he => by cases he⟩
  | [], _ :: _, h, _ => by cases h
  | _ :: _, [], h, _ => by cases h
  | e :: es, (k0, a) :: l, h, k => by
    unfold intEnts at h
    simp only [Bool.and_eq_true] at h
    obtain ⟨⟨⟨h1, h2⟩, h3⟩, h4⟩ := h
    obtain ⟨i1, i2⟩ := intEnts_find h4 k
    obtain ⟨hash, key, val⟩ := e
    cases key with
    | int i t =>
      have e1 : i = k0 := of_decide_eq_true h1
      subst e1
      cases val with
      | ref b =>
        have e3 : b = a := of_decide_eq_true h3
        subst e3
        refine ⟨?_, fun e he => ?_⟩
        · rw [List.find?_cons, List.find?_cons]
          by_cases q : i = k
          · subst q; simp [Value.isInt]
          · have : Value.isInt k (.int i t) = false := by simp [Value.isInt]; first | exact q | exact fun z => q z.symm
            simp only [this, decide_eq_false q]
            exact i1
        · rcases List.mem_cons.mp he with rfl | he
          · exact ⟨i, by simp [Value.isInt], of_decide_eq_true h2⟩
          · exact i2 e he
      | _ => cases h3
    | _ => cases h1
def IntDict (K : PySem.W.Frag) (d : Addr) (l : List (Int × Addr)) : Prop := ∃ o es ep, K.lookup d = some o ∧ o.ExactDict ∧ o.data = .dict es ep ∧ intEnts es.toList l = true
def tIDict (l : List (Int × Addr)) (ty : TE) : TE := fun σ H Q => ty σ H fun y H1 => ∃ i p, y = .int i ∧ (l.find? fun p => decide (p.1 = i)) = some p ∧ Q (.ref p.2) H1
theorem pe_idict {x : Str} {d : Addr} {l : List (Int × Addr)} {p pos : Pos} {i : Expr} {ty : TE} (hg : Gl X x) (hm : X.mg x = some (.ref d)) (hd : IntDict X.K d l) (hi : PE X i ty) (hs : NoSl i) (hdb : (x == ("__debug__" : Str)) = false := by decide) : PE X (.Subscript (.Name x p) i pos) (tIDict l ty) := by
  intro pins s σ H Q I h
  refine subD_of PySem.F.slot_dict_getitem.lookup hs (ld_glob I hg hm (thn (hi pins s σ H _ I h) fun iv s2 ⟨y, H2, I2, ry, z, q, ey, hl, q2⟩ => ?_) hdb)
  subst ey
  obtain ⟨t, rfl⟩ := ry
  obtain ⟨o, es, ep, ho, hx, hdt, hen⟩ := hd
  have hM : s2.heap.MapOf (intKind X.prog X.w) d (fun k => findBy (intKind X.prog X.w).is es k) := ⟨o, es, ep, I2.kIn d o ho, hx, hdt, fun e he => (intEnts_find hen 0).2 e (by simpa using he), fun _ => rfl⟩
  refine ⟨⟨o, I2.kIn d o ho, hx.1⟩, wpAny_getItem_of (intKind_is _ _ z t) hM (v := .ref q.2) ?_ ⟨.ref q.2, H2, I2.tok _, rfl, q2⟩⟩
  show (es.find? fun e => Value.isInt z e.key).map (·.val) = some (.ref q.2)
  rw [← Array.find?_toList, (intEnts_find hen z).1, hl]
  rfl
end
/-! ### the forms one uses: enumerate, the values of a dict -/
theorem for_enum {K : PySem.W.Frag} {a : Addr} {xs : List V} {g : TG} {tb : TS} {D : Ends} {σ : St} {H : Hp} (Pv : Nat → St → Hp → Prop) (h0 : Pv 0 σ H) (hl : ∀ i σ H, i ≤ xs.length → Pv i σ H → SqL K H a xs)
    (hs : ∀ i x σ H T, xs[i]? = some x → H T = none → Pv i σ H → g (.ref T) σ (upd H T (.tup [.int (i : Nat), x])) fun σ2 H2 => tb { D with nx := Pv (i + 1), ct := Pv (i + 1), bk := D.nx } σ2 H2) (hd : ∀ σ H, Pv xs.length σ H → D.nx σ H) :
    ∃ W : Nat → Nat → St → Hp → Prop, (∃ m, W 0 m σ H) ∧ ∀ i m σ H, W i m σ H →
      ((Ite K a).stop i H ∧ D.nx σ H) ∨ ((Ite K a).go i H ∧ ∃ N : St → Hp → Prop, (∀ σ' H', N σ' H' → ∃ m', m' < m ∧ W (i + 1) m' σ' H') ∧ ∀ x H', (Ite K a).yld i H x H' → g x σ H' fun σ2 H2 => tb { D with nx := N, ct := N, bk := D.nx } σ2 H2) := by
  refine ⟨fun i m σ H => m = xs.length - i ∧ i ≤ xs.length ∧ Pv i σ H, ⟨xs.length, by simp, Nat.zero_le _, h0⟩, ?_⟩
  rintro i m σ H ⟨rfl, hi, p⟩
  have q := hl i σ H hi p
  by_cases hlt : i < xs.length
  · refine .inr ⟨⟨xs, xs[i], q, by simp [hlt]⟩, Pv (i + 1), fun σ' H' p' => ⟨xs.length - (i + 1), by omega, rfl, hlt, p'⟩, fun x H' y => ?_⟩
    obtain ⟨T, x', e1, e2, e3, y⟩ := y
    subst e1 e3
    exact hs i x' σ H T (y xs q) e2 p
  · have e : i = xs.length := by omega
    subst e
    exact .inl ⟨⟨xs, q, Nat.le_refl _⟩, hd σ H p⟩
theorem lc_vals {d : Addr} {o : Obj} {kvs : List (Key × V)} {g : TG} {tt : TT} {te : TE} {vs : List Nat} {σ : St} {H1 : Hp} {D : Addr} {Qd : Hp → Prop} (Pv : Nat → Hp → Prop) (h0 : Pv 0 (upd H1 D (.lst []))) (hl : ∀ i H, i ≤ kvs.length → Pv i H → H d = some (.frz o (.dK kvs)))
    (hs : ∀ i k x H, kvs[i]? = some (k, x) → Pv i H → g x (wipe σ vs) H fun σ2 H2 => wipe σ2 vs = wipe σ vs ∧ tt σ2 H2 fun b H3 =>
      if b = true then te σ2 H3 fun y H4 => ∃ acc, H4 D = some (.lst acc) ∧ acc.length < sizeLine ∧ Pv (i + 1) (upd H4 D (.lst (acc ++ [y]))) else Pv (i + 1) H3) (hd : ∀ H, Pv kvs.length H → Qd H) :
    ∃ W : Nat → Nat → Hp → Prop, (∃ m, W 0 m (upd H1 D (.lst []))) ∧ ∀ i m H, W i m H →
      ((Itd d o kvs).stop i H ∧ Qd H) ∨ ((Itd d o kvs).go i H ∧ ∃ Nx : Hp → Prop, (∀ H', Nx H' → ∃ m', m' < m ∧ W (i + 1) m' H') ∧ ∀ x H', (Itd d o kvs).yld i H x H' → g x (wipe σ vs) H' fun σ2 H2 => wipe σ2 vs = wipe σ vs ∧ tt σ2 H2 fun b H3 =>
        if b = true then te σ2 H3 fun y H4 => ∃ acc, H4 D = some (.lst acc) ∧ acc.length < sizeLine ∧ Nx (upd H4 D (.lst (acc ++ [y]))) else Nx H3) := by
  refine ⟨fun i m H => m = kvs.length - i ∧ i ≤ kvs.length ∧ Pv i H, ⟨kvs.length, by simp, Nat.zero_le _, h0⟩, ?_⟩
  rintro i m H ⟨rfl, hi, p⟩
  have q := hl i H hi p
  by_cases hlt : i < kvs.length
  · refine .inr ⟨⟨q, hlt⟩, Pv (i + 1), fun H' p' => ⟨kvs.length - (i + 1), by omega, rfl, hlt, p'⟩, fun x H' y => ?_⟩
    obtain ⟨e, k, y⟩ := y
    subst e
    exact hs i k x _ y p
  · have e : i = kvs.length := by omega
    subst e
    exact .inl ⟨⟨q, Nat.le_refl _⟩, hd H p⟩
/-! within a comprehension: the written part K by its own name -/
theorem pe_fldK {X : Cx} {K : PySem.W.Frag} {e : Expr} {f : Str} {pos : Pos} {ta : TE} (hK : X.K = K) (he : PE X e ta) (hb : attributeBase e f X.env (eval e X.env) = eval e X.env) : PE X (.Attribute e f pos) (tFld K ta f) := by
  subst hK
  exact pe_fld he hb
theorem pe_countK {X : Cx} {K : PySem.W.Frag} {o e : Expr} {to : TE} {t : TA} {apos cpos : Pos} (hK : X.K = K) (ho : PE X o to) (ha : PA X [e] t)
    (hbase : attributeBase o "count" X.env (eval o X.env) = eval o X.env := by rfl)
    (hfew : ((backTo cpos (starEach [e] X.env)).all (fun x => !x.1) && (backToKw cpos (keywordEach [] X.env)).all (fun x => x.1.isSome)
      && decide (([e] : List Expr).length + ([] : List Keyword).length + (if ([] : List Keyword).isEmpty then 0 else 1) < 30)) = true := by rfl)
    (hline : (apos.endLine == cpos.line) = true := by rfl) (hs : starEach [e] X.env = (false, eval e X.env) :: starEach [] X.env := by rfl) (hplain : (backTo cpos (starEach [] X.env)).any (·.1) = false := by rfl) :
    PE X (.Call (.Attribute o "count" apos) [e] [] cpos) (tBM K "list" (rCount K) to t) := by
  subst hK
  exact pe_bm PySem.F.plainAttrs_list PySem.F.slot_list_count PySem.F.type_list_count mt_lcount ho ha hbase hfew hline hs hplain
end L2
end
section
section
set_option Elab.async false
set_option linter.all false
set_option maxRecDepth 100000
set_option maxHeartbeats 2000000
namespace L2
open PySem PySem.Spec PyProof.Rows
open PySem.W (WData Codec OpenSpec Well WellAll ReadsW ReadsAllW)
/-! ### an answer as data -/
mutual
/-- x stands for the datum d, lists and tuples all the way -/
inductive Dw (K : PySem.W.Frag) (H : Hp) : V → WData → Prop
  | non : Dw K H .non .none
  | bl (b : Bool) : Dw K H (.bl b) (.bool b)
  | int (i : Int) : Dw K H (.int i) (.int i)
  | str (x : Str) : Dw K H (.str x) (.str x)
  | byt (b : Array UInt8) : Dw K H (.byt b) (.bytes b.toList)
  | lst {a : Addr} {xs : List V} {ds : List WData} : SqL K H a xs → DwAll K H xs ds → Dw K H (.ref a) (.list ds)
  | tup {a : Addr} {xs : List V} {ds : List WData} : SqT K H a xs → DwAll K H xs ds → Dw K H (.ref a) (.tuple ds)
inductive DwAll (K : PySem.W.Frag) (H : Hp) : List V → List WData → Prop
  | nil : DwAll K H [] []
  | cons {v : V} {vs : List V} {d : WData} {ds : List WData} : Dw K H v d → DwAll K H vs ds → DwAll K H (v :: vs) (d :: ds)
end
theorem dw_ints {K : PySem.W.Frag} {H : Hp} : ∀ ns : List Int, DwAll K H (ns.map V.int) (ns.map WData.int)
  | [] => .nil
  | n :: r => .cons (.int n) (dw_ints r)
theorem ints_dw {K : PySem.W.Frag} {H : Hp} : ∀ (ns : List Int) (xs : List V), DwAll K H xs (ns.map WData.int) → xs = ns.map V.int
  | [], xs, h => by
    cases h
    rfl
  | n :: r, xs, h => by
    cases h with
    | cons h1 h2 =>
      cases h1
      rw [ints_dw r _ h2] <;> rfl
section
variable {P : Program} {w : World} {K : PySem.W.Frag} {H : Hp} {h : Heap} {R : PySem.W.WRecords} {cl : Str → Option Addr}
theorem sqL_at {a : Addr} {xs : List V} (hok : HOk P w H h) (KX : K.In h) (q : SqL K H a xs) : ∃ (its : List Value) (o : Obj) (n : Nat), Vals xs its ∧ h.get? a = some o ∧ o.cls = .type "list" ∧ o.data = .seq its.toArray n := by
  rcases q with q | ⟨o, its, n, e, hc, _, hd, _, hv⟩
  · obtain ⟨_, its, n, hv, e⟩ := (show ObjOk P w H h a (.lst xs) from q.ok hok)
    exact ⟨its, _, n, hv, e, rfl, rfl⟩
  · exact ⟨its.toList, o, n, hv, KX _ _ e, hc, by simp [hd]⟩
theorem sqT_at {a : Addr} {xs : List V} (hok : HOk P w H h) (KX : K.In h) (q : SqT K H a xs) : ∃ (its : List Value) (o : Obj) (n : Nat), Vals xs its ∧ h.get? a = some o ∧ o.cls = .type "tuple" ∧ o.data = .seq its.toArray n := by
  rcases q with q | ⟨o, its, n, e, hc, hd, _, hv⟩
  · obtain ⟨_, its, hv, o, e, hc, n, hd⟩ := (show ObjOk P w H h a (.tup xs) from q.ok hok)
    exact ⟨its, o, n, hv, e, hc, hd⟩
  · exact ⟨its.toList, o, n, hv, KX _ _ e, hc, by simp [hd]⟩
mutual
theorem Dw.reads (hok : HOk P w H h) (KX : K.In h) : ∀ (d : WData) (v : V) (u : Value), Dw K H v d → RelV v u → ∃ as, ReadsW R cl h u d as
  | .none, _, _, x, r => by
    cases x
    cases r
    exact ⟨_, ReadsW.none⟩
  | .bool b, _, _, x, r => by
    cases x
    cases r
    exact ⟨_, ReadsW.bool b⟩
  | .int i, _, _, x, r => by
    cases x
    obtain ⟨t, rfl⟩ := r
    exact ⟨_, ReadsW.int i t⟩
  | .str s, _, _, x, r => by
    cases x
    obtain ⟨t, rfl⟩ := r
    exact ⟨_, ReadsW.str s t⟩
  | .bytes b, _, _, x, r => by
    cases x
    obtain ⟨t, rfl⟩ := r
    exact ⟨_, ReadsW.bytes _ t⟩
  | .list ds, _, _, x, r => by
    cases x with
    | lst hs ha =>
      cases r
      obtain ⟨its, o, n, rv, ho, hc, hd⟩ := sqL_at hok KX hs
      obtain ⟨as, hr⟩ := Dw.readsAll hok KX ds _ its ha rv
      exact ⟨_, ReadsW.list ho hc hd hr⟩
  | .tuple ds, _, _, x, r => by
    cases x with
    | tup hs ha =>
      cases r
      obtain ⟨its, o, n, rv, ho, hc, hd⟩ := sqT_at hok KX hs
      obtain ⟨as, hr⟩ := Dw.readsAll hok KX ds _ its ha rv
      exact ⟨_, ReadsW.tuple ho hc hd hr⟩
  | .float _, _, _, x, _ => by cases x
  | .dict _, _, _, x, _ => by cases x
  | .bytearray _, _, _, x, _ => by cases x
  | .set _, _, _, x, _ => by cases x
  | .frozenset _, _, _, x, _ => by cases x
  | .obj _ _, _, _, x, _ => by cases x
theorem Dw.readsAll (hok : HOk P w H h) (KX : K.In h) : ∀ (ds : List WData) (vs : List V) (us : List Value), DwAll K H vs ds → Vals vs us → ∃ as, ReadsAllW R cl h us ds as
  | [], _, _, x, r => by
    cases x
    cases r
    exact ⟨_, ReadsAllW.nil⟩
  | d :: ds, _, _, x, r => by
    cases x with
    | cons h1 h2 =>
      cases r with
      | cons r1 r2 =>
        obtain ⟨as, q1⟩ := Dw.reads hok KX d _ _ h1 r1
        obtain ⟨bs, q2⟩ := Dw.readsAll hok KX ds _ _ h2 r2
        exact ⟨_, ReadsAllW.cons q1 q2⟩
end
end
/-! ### the arguments -/
mutual
/-- data that a codec tells -/
def plW : WData → Bool
  | .none => true
  | .bool _ => true
  | .int _ => true
  | .str _ => true
  | .bytes _ => true
  | .list xs => plWs xs
  | .tuple xs => plWs xs
  | _ => false
def plWs : List WData → Bool
  | [] => true
  | x :: r => plW x && plWs r
end
theorem plWs_map {α : Type} {f : α → WData} (h : ∀ a, plW (f a) = true) : ∀ l : List α, plWs (l.map f) = true
  | [] => rfl
  | x :: r => by
    show (plW (f x) && plWs (r.map f)) = true
    rw [h x, plWs_map h r] <;> rfl
theorem pl_enc : ∀ (c : Codec) (a : c.denote), plW (c.enc a) = true
  | .unit, _ => rfl
  | .bool, _ => rfl
  | .int _ _, _ => rfl
  | .nat _ _, _ => rfl
  | .u8, _ => rfl
  | .bytes _ _, _ => rfl
  | .text _ _ _ _, _ => rfl
  | .list _ _ c, a => plWs_map (fun x => pl_enc c x) a
  | .pair c d, a => by
    show (plW (c.enc a.1) && (plW (d.enc a.2) && true)) = true
    rw [pl_enc c a.1, pl_enc d a.2] <;> rfl
  | .triple c d e, a => by
    show (plW (c.enc a.1) && (plW (d.enc a.2.1) && (plW (e.enc a.2.2) && true))) = true
    rw [pl_enc c a.1, pl_enc d a.2.1, pl_enc e a.2.2] <;> rfl
  | .option c, none => rfl
  | .option c, some x => pl_enc c x
theorem pl_encAll : ∀ (cs : List Codec) (a : Codec.denoteAll cs), plWs (Codec.encAll cs a) = true
  | [], _ => rfl
  | c :: cs, a => by
    show (plW (c.enc a.1) && plWs (Codec.encAll cs a.2)) = true
    rw [pl_enc c a.1, pl_encAll cs a.2] <;> rfl
theorem weight_mem : ∀ {xs : List WData} {d : WData}, d ∈ xs → d.weight ≤ WData.weightAll xs
  | [], d, h => absurd h (by simp)
  | x :: r, d, h => by
    show d.weight ≤ x.weight + 1 + WData.weightAll r
    rcases List.mem_cons.mp h with e | m
    · rw [e]
      omega
    · have z := weight_mem m
      omega
def toV : Value → V
  | .none => .non
  | .bool b => .bl b
  | .int i _ => .int i
  | .str x _ => .str x
  | .bytes b _ => .byt b
  | .ref a => .ref a
  | _ => .non
/-- a value of the arguments, its objects among A -/
def OkU (A : List Addr) : Value → Prop
  | .none => True
  | .bool _ => True
  | .int _ _ => True
  | .str _ _ => True
  | .bytes _ _ => True
  | .ref a => a ∈ A
  | _ => False
theorem OkU.mono {A B : List Addr} (h : ∀ a ∈ A, a ∈ B) : ∀ {u : Value}, OkU A u → OkU B u := fun {u} x => by
  cases u with
  | ref a => exact h a x
  | none => trivial
  | bool b => trivial
  | int i t => trivial
  | str s t => trivial
  | bytes b t => trivial
  | _ => exact False.elim x
theorem relV_toV {A : List Addr} {u : Value} (x : OkU A u) : RelV (toV u) u := by
  cases u with
  | ref a => rfl
  | none => rfl
  | bool b => rfl
  | int i t => exact ⟨t, rfl⟩
  | str s t => exact ⟨t, rfl⟩
  | bytes b t => exact ⟨t, rfl⟩
  | _ => exact False.elim x
theorem vals_toV {A : List Addr} : ∀ {vs : List Value}, (∀ u ∈ vs, OkU A u) → Vals (vs.map toV) vs
  | [], _ => .nil
  | u :: r, h => .cons (relV_toV (h u (List.mem_cons_self ..))) (vals_toV fun x hx => h x (List.mem_cons_of_mem _ hx))
/-- an object of the arguments -/
def ArgOb (h : Heap) (A : List Addr) (a : Addr) : Prop := ∃ vs : List Value, vs.length ≤ sizeLine ∧ (∀ u ∈ vs, OkU A u) ∧
  (h.get? a = some { cls := .type "list", data := .seq vs.toArray } ∨ h.get? a = some { cls := .type "tuple", data := .seq vs.toArray })
theorem ArgOb.mono {h : Heap} {A B : List Addr} {a : Addr} (k : ∀ a ∈ A, a ∈ B) (x : ArgOb h A a) : ArgOb h B a := by
  obtain ⟨vs, h1, h2, h3⟩ := x
  exact ⟨vs, h1, fun u hu => (h2 u hu).mono k, h3⟩
theorem wellAll_len {P : Params} {h : Heap} : ∀ {vs : List Value} {ds : List WData}, WellAll P h vs ds → vs.length = ds.length
  | _, _, .nil => rfl
  | _, _, .cons _ b => by
    show _ + 1 = _ + 1
    rw [wellAll_len b]
theorem well_list {P : Params} {h : Heap} {v : Value} {ds : List WData} (x : Well P h v (.list ds)) : ∃ (a : Addr) (vs : List Value), v = .ref a ∧ h.get? a = some { cls := .type "list", data := .seq vs.toArray } ∧ WellAll P h vs ds := by
  cases x with
  | list ho hall => exact ⟨_, _, rfl, ho, hall⟩
theorem well_tuple {P : Params} {h : Heap} {v : Value} {ds : List WData} (x : Well P h v (.tuple ds)) : ∃ (a : Addr) (vs : List Value), v = .ref a ∧ h.get? a = some { cls := .type "tuple", data := .seq vs.toArray } ∧ WellAll P h vs ds := by
  cases x with
  | tuple ho hall => exact ⟨_, _, rfl, ho, hall⟩
theorem well_cons {P : Params} {h : Heap} {us : List Value} {d : WData} {ds : List WData} (x : WellAll P h us (d :: ds)) : ∃ (v : Value) (vs : List Value), us = v :: vs ∧ Well P h v d ∧ WellAll P h vs ds := by
  cases x with
  | cons a b => exact ⟨_, _, rfl, a, b⟩
theorem line_of {n : Nat} (h : n ≤ 1048576) : n ≤ sizeLine := Nat.le_trans h (by decide)
section
variable {P : Params} {h : Heap}
mutual
theorem area_one : ∀ (d : WData) (v : Value), Well P h v d → plW d = true → d.weight ≤ 1048576 → ∃ A : List Addr, OkU A v ∧ ∀ a ∈ A, ArgOb h A a
  | .none, _, x, _, _ => by
    cases x
    exact ⟨[], trivial, fun a m => absurd m (by simp)⟩
  | .bool b, _, x, _, _ => by
    cases x
    exact ⟨[], trivial, fun a m => absurd m (by simp)⟩
  | .int i, _, x, _, _ => by
    cases x
    exact ⟨[], trivial, fun a m => absurd m (by simp)⟩
  | .str s, _, x, _, _ => by
    cases x
    exact ⟨[], trivial, fun a m => absurd m (by simp)⟩
  | .bytes b, _, x, _, _ => by
    cases x
    exact ⟨[], trivial, fun a m => absurd m (by simp)⟩
  | .list ds, _, x, p, z => by
    obtain ⟨a, vs, rfl, ho, hall⟩ := well_list x
    have z2 : WData.weightAll ds ≤ 1048576 := z
    obtain ⟨A, h1, h2⟩ := area_all ds _ hall p fun d hd => Nat.le_trans (weight_mem hd) z2
    have k : ∀ b ∈ A, b ∈ a :: A := fun b hb => List.mem_cons_of_mem _ hb
    refine ⟨a :: A, List.mem_cons_self .., fun b hb => ?_⟩
    rcases List.mem_cons.mp hb with e | m
    · rw [e]
      exact ⟨vs, line_of (by rw [wellAll_len hall]; exact Nat.le_trans (PySem.W.length_le_weightAllW ds) z2), fun u hu => (h1 u hu).mono k, .inl ho⟩
    · exact (h2 b m).mono k
  | .tuple ds, _, x, p, z => by
    obtain ⟨a, vs, rfl, ho, hall⟩ := well_tuple x
    have z2 : WData.weightAll ds ≤ 1048576 := z
    obtain ⟨A, h1, h2⟩ := area_all ds _ hall p fun d hd => Nat.le_trans (weight_mem hd) z2
    have k : ∀ b ∈ A, b ∈ a :: A := fun b hb => List.mem_cons_of_mem _ hb
    refine ⟨a :: A, List.mem_cons_self .., fun b hb => ?_⟩
    rcases List.mem_cons.mp hb with e | m
    · rw [e]
      exact ⟨vs, line_of (by rw [wellAll_len hall]; exact Nat.le_trans (PySem.W.length_le_weightAllW ds) z2), fun u hu => (h1 u hu).mono k, .inr ho⟩
    · exact (h2 b m).mono k
  | .float _, _, _, p, _ => Bool.noConfusion (show false = true from p)
  | .dict _, _, _, p, _ => Bool.noConfusion (show false = true from p)
  | .bytearray _, _, _, p, _ => Bool.noConfusion (show false = true from p)
  | .set _, _, _, p, _ => Bool.noConfusion (show false = true from p)
  | .frozenset _, _, _, p, _ => Bool.noConfusion (show false = true from p)
  | .obj _ _, _, _, p, _ => Bool.noConfusion (show false = true from p)
theorem area_all : ∀ (ds : List WData) (vs : List Value), WellAll P h vs ds → plWs ds = true → (∀ d ∈ ds, d.weight ≤ 1048576) → ∃ A : List Addr, (∀ u ∈ vs, OkU A u) ∧ ∀ a ∈ A, ArgOb h A a
  | [], _, x, _, _ => by
    cases x
    exact ⟨[], fun u m => absurd m (by simp), fun a m => absurd m (by simp)⟩
  | d :: ds, _, x, p, z => by
    obtain ⟨v, vs, rfl, x1, x2⟩ := well_cons x
    have q : plW d = true ∧ plWs ds = true := Bool.and_eq_true_iff.mp p
    obtain ⟨A, a1, a2⟩ := area_one d v x1 q.1 (z d (List.mem_cons_self ..))
    obtain ⟨B, b1, b2⟩ := area_all ds vs x2 q.2 fun e he => z e (List.mem_cons_of_mem _ he)
    have kA : ∀ b ∈ A, b ∈ A ++ B := fun b hb => List.mem_append.mpr (.inl hb)
    have kB : ∀ b ∈ B, b ∈ A ++ B := fun b hb => List.mem_append.mpr (.inr hb)
    refine ⟨A ++ B, fun u hu => ?_, fun b hb => ?_⟩
    · rcases List.mem_cons.mp hu with e | m
      · rw [e]
        exact a1.mono kA
      · exact (b1 u m).mono kB
    · rcases List.mem_append.mp hb with m | m
      · exact (a2 b m).mono kA
      · exact (b2 b m).mono kB
end
end
/-- what is tracked of an argument's object -/
def hoOf (o : Obj) : Option HO := match o.data with
  | .seq vs _ => if (o.cls == Value.type "list") = true then some (.frz o (.lst (vs.toList.map toV))) else some (.frz o (.tup (vs.toList.map toV)))
  | _ => none
def argH (K : PySem.W.Frag) (h : Heap) (A : List Addr) : Hp := fun b => if b ∈ A then (if (K.lookup b).isNone = true then (h.get? b).bind hoOf else none) else none
/-- nothing is tracked but what is known to the object -/
def OnlyF (H : Hp) : Prop := ∀ b, H b = none ∨ ∃ o u, H b = some (.frz o u)
theorem hoOf_lst (vs : List Value) : hoOf { cls := .type "list", data := .seq vs.toArray } = some (.frz { cls := .type "list", data := .seq vs.toArray } (.lst (vs.map toV))) := by
  show (if (Value.type "list" == Value.type "list") = true then some (HO.frz { cls := .type "list", data := .seq vs.toArray } (.lst (vs.toArray.toList.map toV))) else some (HO.frz { cls := .type "list", data := .seq vs.toArray } (.tup (vs.toArray.toList.map toV)))) = _
  rw [if_pos (beq_self_eq_true _)]
theorem hoOf_tup (vs : List Value) : hoOf { cls := .type "tuple", data := .seq vs.toArray } = some (.frz { cls := .type "tuple", data := .seq vs.toArray } (.tup (vs.map toV))) := by
  show (if (Value.type "tuple" == Value.type "list") = true then some (HO.frz { cls := .type "tuple", data := .seq vs.toArray } (.lst (vs.toArray.toList.map toV))) else some (HO.frz { cls := .type "tuple", data := .seq vs.toArray } (.tup (vs.toArray.toList.map toV)))) = _
  rw [if_neg (by decide)]
section
variable {P : Program} {w : World} {K : PySem.W.Frag} {h : Heap} {A : List Addr}
theorem argH_at {b : Addr} {o : Obj} (hb : b ∈ A) (hk : K.lookup b = none) (e : h.get? b = some o) : argH K h A b = hoOf o := by
  unfold argH
  rw [if_pos hb, hk, if_pos (show (none : Option Obj).isNone = true from rfl), e] <;> rfl
theorem of_argH {b : Addr} {u : HO} (q : argH K h A b = some u) : b ∈ A ∧ K.lookup b = none := by
  unfold argH at q
  by_cases hb : b ∈ A
  · rw [if_pos hb] at q
    cases hk : K.lookup b with
    | none => exact ⟨hb, rfl⟩
    | some o =>
      rw [hk, if_neg (by simp)] at q
      cases q
  · rw [if_neg hb] at q
    cases q
/-- what stands tracked -/
theorem argH_is (ar : ∀ a ∈ A, ArgOb h A a) {b : Addr} {u : HO} (q : argH K h A b = some u) : K.lookup b = none ∧ ∃ vs : List Value, vs.length ≤ sizeLine ∧ (∀ u ∈ vs, OkU A u) ∧
    ((h.get? b = some { cls := .type "list", data := .seq vs.toArray } ∧ u = .frz { cls := .type "list", data := .seq vs.toArray } (.lst (vs.map toV))) ∨
     (h.get? b = some { cls := .type "tuple", data := .seq vs.toArray } ∧ u = .frz { cls := .type "tuple", data := .seq vs.toArray } (.tup (vs.map toV)))) := by
  obtain ⟨hb, hk⟩ := of_argH q
  obtain ⟨vs, h1, h2, h3⟩ := ar b hb
  refine ⟨hk, vs, h1, h2, ?_⟩
  rcases h3 with e | e
  · rw [argH_at hb hk e, hoOf_lst] at q
    exact .inl ⟨e, (Option.some.inj q).symm⟩
  · rw [argH_at hb hk e, hoOf_tup] at q
    exact .inr ⟨e, (Option.some.inj q).symm⟩
theorem argH_only (ar : ∀ a ∈ A, ArgOb h A a) : OnlyF (argH K h A) := fun b => by
  cases q : argH K h A b with
  | none => exact .inl rfl
  | some u =>
    obtain ⟨_, vs, _, _, ⟨_, e⟩ | ⟨_, e⟩⟩ := argH_is ar q
    · exact .inr ⟨_, _, by rw [e]⟩
    · exact .inr ⟨_, _, by rw [e]⟩
theorem argH_ok (ar : ∀ a ∈ A, ArgOb h A a) : HOk P w (argH K h A) h := fun b u q => by
  obtain ⟨_, vs, h1, h2, ⟨e, rfl⟩ | ⟨e, rfl⟩⟩ := argH_is ar q
  · exact ⟨e, by rw [List.length_map]; exact h1, vs, _, vals_toV h2, e⟩
  · exact ⟨e, by rw [List.length_map]; exact h1, vs, vals_toV h2, _, e, rfl, _, rfl⟩
theorem seq_inj {c c' : Value} {vs us : List Value} (e : (some { cls := c, data := .seq vs.toArray } : Option Obj) = some { cls := c', data := .seq us.toArray }) : c = c' ∧ vs = us := by
  have e1 := Option.some.inj e
  have e2 : c = c' := congrArg Obj.cls e1
  have e3 : Data.seq vs.toArray = Data.seq us.toArray := congrArg Obj.data e1
  injection e3 with e4
  refine ⟨e2, ?_⟩
  have e5 := congrArg Array.toList e4
  simpa using e5
/-- a list argument -/
theorem argL (KX : K.In h) (ar : ∀ a ∈ A, ArgOb h A a) {a : Addr} {vs : List Value} (ha : a ∈ A) (e : h.get? a = some { cls := .type "list", data := .seq vs.toArray }) : (∀ u ∈ vs, OkU A u) ∧ SqL K (argH K h A) a (vs.map toV) := by
  obtain ⟨us, h1, h2, h3⟩ := ar a ha
  have hu : us = vs := by
    rcases h3 with q | q
    · rw [e] at q
      exact (seq_inj q).2.symm
    · rw [e] at q
      exact absurd (Value.type.inj (seq_inj q).1) (by decide)
  subst hu
  refine ⟨h2, ?_⟩
  cases hk : K.lookup a with
  | none => exact .inl (.inr ⟨_, by rw [argH_at ha hk e, hoOf_lst]⟩)
  | some o =>
    have e2 := KX a o hk
    rw [e] at e2
    obtain rfl := Option.some.inj e2
    exact .inr ⟨_, us.toArray, _, hk, rfl, rfl, rfl, by rw [List.size_toArray]; exact h1, by simpa using vals_toV h2⟩
theorem argT (KX : K.In h) (ar : ∀ a ∈ A, ArgOb h A a) {a : Addr} {vs : List Value} (ha : a ∈ A) (e : h.get? a = some { cls := .type "tuple", data := .seq vs.toArray }) : (∀ u ∈ vs, OkU A u) ∧ SqT K (argH K h A) a (vs.map toV) := by
  obtain ⟨us, h1, h2, h3⟩ := ar a ha
  have hu : us = vs := by
    rcases h3 with q | q
    · rw [e] at q
      exact absurd (Value.type.inj (seq_inj q).1) (by decide)
    · rw [e] at q
      exact (seq_inj q).2.symm
  subst hu
  refine ⟨h2, ?_⟩
  cases hk : K.lookup a with
  | none => exact .inl (.inr ⟨_, by rw [argH_at ha hk e, hoOf_tup]⟩)
  | some o =>
    have e2 := KX a o hk
    rw [e] at e2
    obtain rfl := Option.some.inj e2
    exact .inr ⟨_, us.toArray, _, hk, rfl, rfl, by rw [List.size_toArray]; exact h1, by simpa using vals_toV h2⟩
mutual
theorem dw_one {Pm : Params} (KX : K.In h) (ar : ∀ a ∈ A, ArgOb h A a) : ∀ (d : WData) (v : Value), Well Pm h v d → plW d = true → OkU A v → Dw K (argH K h A) (toV v) d
  | .none, _, x, _, _ => by
    cases x
    exact .non
  | .bool b, _, x, _, _ => by
    cases x
    exact .bl b
  | .int i, _, x, _, _ => by
    cases x
    exact .int i
  | .str s, _, x, _, _ => by
    cases x
    exact .str s
  | .bytes b, _, x, _, _ => by
    cases x
    have z := Dw.byt (K := K) (H := argH K h A) b.toArray
    exact z
  | .list ds, _, x, p, hu => by
    obtain ⟨a, vs, rfl, ho, hall⟩ := well_list x
    obtain ⟨h2, hs⟩ := argL KX ar hu ho
    exact .lst hs (dw_all KX ar ds _ hall p h2)
  | .tuple ds, _, x, p, hu => by
    obtain ⟨a, vs, rfl, ho, hall⟩ := well_tuple x
    obtain ⟨h2, hs⟩ := argT KX ar hu ho
    exact .tup hs (dw_all KX ar ds _ hall p h2)
  | .float _, _, _, p, _ => Bool.noConfusion (show false = true from p)
  | .dict _, _, _, p, _ => Bool.noConfusion (show false = true from p)
  | .bytearray _, _, _, p, _ => Bool.noConfusion (show false = true from p)
  | .set _, _, _, p, _ => Bool.noConfusion (show false = true from p)
  | .frozenset _, _, _, p, _ => Bool.noConfusion (show false = true from p)
  | .obj _ _, _, _, p, _ => Bool.noConfusion (show false = true from p)
theorem dw_all {Pm : Params} (KX : K.In h) (ar : ∀ a ∈ A, ArgOb h A a) : ∀ (ds : List WData) (vs : List Value), WellAll Pm h vs ds → plWs ds = true → (∀ u ∈ vs, OkU A u) → DwAll K (argH K h A) (vs.map toV) ds
  | [], _, x, _, _ => by
    cases x
    exact .nil
  | d :: ds, _, x, p, hu => by
    obtain ⟨v, vs, rfl, x1, x2⟩ := well_cons x
    have q : plW d = true ∧ plWs ds = true := Bool.and_eq_true_iff.mp p
    exact .cons (dw_one KX ar d v x1 q.1 (hu _ (List.mem_cons_self ..))) (dw_all KX ar ds vs x2 q.2 fun u m => hu u (List.mem_cons_of_mem _ m))
end
end
/-! ### the call -/
theorem spec_call {P : Program} {w : World} {K : PySem.W.Frag} {mg mb : Str → Option Value} {CX : CXT} {k : Nat} {fa : Addr} {fd : FuncData} {ps : List Str} {sp : Sp} {s₁ : Shared} {vals : List Value} {ds : List WData} {R : PySem.W.WRecords} {cl : Str → Option Addr} {d0 : WData}
    (KX : K.In s₁.heap) (hns : s₁.heap.Ns mainGlobals mg) (hb : s₁.heap.Ns builtinsNs mb) (hbb : ∀ x : Str, x ≠ "__name__" → mb x = bootBuiltins x) (hlim : s₁.heap.NoLimit) (hg : s₁.gens = #[])
    (hwl : WellAll w.params s₁.heap vals ds) (hpl : plWs ds = true) (hwt : ∀ d ∈ ds, d.weight ≤ 1048576) (hr : Room k callerA)
    (F : ∀ base : Heap, K.In base → base.Ns mainGlobals mg → FnOk P w K mg base CX k fa fd ps sp) (hbind : ∀ (s : Shared) (us : List Value), us.length = ps.length → BindsTo s fd ⟨us, []⟩ (ps.zip us)) (hlen : ds.length = ps.length)
    (hsp : ∀ (H : Hp) (xs : List V), OnlyF H → DwAll K H xs ds → sp xs H (fun v H' => Dw K H' v d0) fun _ _ _ => False)
    (hCX : ∀ H e s', CX [] H s₁ (fun _ _ _ => False) e s' → False) :
    codeAny (model P w) callerA (.call (.ref fa) ⟨vals, []⟩) (fun r s' => ∃ u as, r = .ok (.ret u) ∧ ReadsW R cl s'.heap u d0 as ∧ OldK s₁.heap s'.heap ∧ s'.os = s₁.os ∧ AllBare s'.gens) s₁ := by
  obtain ⟨A, ho, ar⟩ := area_all ds vals hwl hpl hwt
  have hO : OnlyF (argH K s₁.heap A) := argH_only ar
  have hok : HOk P w (argH K s₁.heap A) s₁.heap := argH_ok ar
  have hS := dw_all KX ar ds vals hwl hpl ho
  have hV := vals_toV ho
  have hK : ∀ b u, argH K s₁.heap A b = some u → K.lookup b = none := fun b u q => (argH_is ar q).1
  have noA : ∀ {b : Addr} {o : Obj} {es : Array DictEntry} {ep : Nat}, s₁.heap.get? b = some o → o.data = .dict es ep → argH K s₁.heap A b = none := fun {b o es ep} e d => by
    cases q : argH K s₁.heap A b with
    | none => rfl
    | some u =>
      obtain ⟨_, vs, _, _, ⟨e2, _⟩ | ⟨e2, _⟩⟩ := argH_is ar q
      · rw [e2] at e
        cases e
        have d' : Data.seq vs.toArray _ = Data.dict es ep := d
        cases d'
      · rw [e2] at e
        cases e
        have d' : Data.seq vs.toArray _ = Data.dict es ep := d
        cases d'
  generalize argH K s₁.heap A = H at hO hok hS hK noA
  have base_of : ∀ {b : Addr} {o : Obj}, s₁.heap.get? b = some o → H b = none → (hidT s₁.heap H).get? b = some o := fun e n => hidT_get e n
  have nsK : ∀ {b : Addr} {m : Str → Option Value}, s₁.heap.Ns b m → (hidT s₁.heap H).Ns b m := fun {b m} ⟨o, es, ep, e, d, r⟩ => ⟨o, es, ep, base_of e (noA e d), d, r⟩
  have nK : ∀ b o, K.lookup b = some o → H b = none := fun b o e => by
    cases q : H b with
    | none => rfl
    | some u =>
      rw [hK b u q] at e
      cases e
  have hKb : K.In (hidT s₁.heap H) := fun b o e => base_of (KX b o e) (nK b o e)
  have hM : Mod K mg (hidT s₁.heap H) := ⟨hKb, nsK hns, ⟨mb, nsK hb, hbb⟩, let ⟨mc, h1, h2⟩ := hlim; ⟨mc, nsK h1, h2⟩⟩
  have e0 : Env0 P w K mg (hidT s₁.heap H) callerA [] s₁ H := ⟨rfl, hM, fun b o e => of_hidT e, Nat.le_of_eq (hidT_size _ _), trivial, fun b hb => absurd (show b ∈ ([] : List Addr) from hb) (by simp), hok, .of_eq hg⟩
  have hl : vals.length = ps.length := by rw [wellAll_len hwl]; exact hlen
  refine codeAny_mono ((F _ hKb (nsK hns)).run callerA [] s₁ H ⟨vals, []⟩ vals (vals.map toV) _ _ hr e0 (hbind s₁ vals hl) hV (hsp H _ hO hS)) fun r s' x => ?_
  cases r with
  | error e => exact (hCX H e s' x).elim
  | ok fl =>
    cases fl with
    | next => exact False.elim x
    | brk => exact False.elim x
    | cont => exact False.elim x
    | ret u =>
      obtain ⟨v, H', os, bare, un, hok', r', q⟩ := x
      have kept : ∀ b o, s₁.heap.get? b = some o → s'.heap.get? b = some o := fun b o e => by
        cases q2 : H b with
        | none => exact un.keep b o e q2 (by intro z; exact absurd (show b ∈ ([] : List Addr) from z) (by simp)) (by simp)
        | some u2 =>
          rcases hO b with z | ⟨ob, u3, z⟩
          · rw [q2] at z
            cases z
          · have z2 := un.frzs b ob _ z
            obtain ⟨e1, _⟩ := hok b _ z
            obtain ⟨e2, _⟩ := hok' b _ z2
            rw [e] at e1
            cases e1
            exact e2
      have KX' : K.In s'.heap := fun b o e => kept b o (KX b o e)
      obtain ⟨as, hrd⟩ := Dw.reads (R := R) (cl := cl) hok' KX' d0 v u q r'
      exact ⟨u, as, rfl, hrd, OldK.of_keep kept, os, bare⟩
/-! ### the row -/
theorem layable_weight {ds : List WData} (h : WData.layableAll ds = true) : ∀ d ∈ ds, d.weight ≤ 1048576 := fun d hd =>
  (PySem.W.layableW_iff.mp (List.all_eq_true.mp h d hd)).2.2
theorem encAll_len : ∀ (cs : List Codec) (a : Codec.denoteAll cs), (Codec.encAll cs a).length = cs.length
  | [], _ => rfl
  | c :: cs, a => by
    show (Codec.encAll cs a.2).length + 1 = cs.length + 1
    rw [encAll_len cs a.2]
/-- the goal that k_headS leaves (case hc), from the promise of the row's def: whatever the arguments that the codecs let and the row asks for, the def gives what stands for enc (f ..) -/
theorem walk_spec {r : OpenSpec} {k : Nat} {q : Program} {loose : List Str} {XP : (Str → Option Value) → Heap → Prop} {YP : World → Heap → Prop} {d : DefRec} {K : Params → PySem.W.Frag} {CX : World → CXT} {ps : List Str} {sp : World → Sp}
    (hwell : r.wellSaid = true) (hdf : d.params.defaults = []) (hlen : r.args.length = ps.length) (hr : Room k callerA)
    (hY : ∀ (w : World) (h : Heap), YP w h → (K w.params).In h)
    (F : ∀ (w : World) (mg : Str → Option Value) (fa : Addr) (h : Heap), YP w h → (K w.params).In h → h.Ns mainGlobals mg → mg d.name = some (.ref fa) →
      ∃ fd : FuncData, (∀ (s : Shared) (us : List Value), us.length = ps.length → BindsTo s fd ⟨us, []⟩ (ps.zip us)) ∧
        ∀ base : Heap, (K w.params).In base → base.Ns mainGlobals mg → FnOk r.prog w (K w.params) mg base (CX w) k fa fd ps (sp w))
    (hsp : ∀ (w : World) (H : Hp) (xs : List V) (a : Codec.denoteAll r.args), OnlyF H → Codec.withinAll r.args a = true → Codec.app r.args r.asked a = true → DwAll (K w.params) H xs (Codec.encAll r.args a) →
      sp w xs H (fun v H' => Dw (K w.params) H' v (r.ret.enc (Codec.app r.args r.f a))) fun _ _ _ => False)
    (hCX : ∀ (w : World) (H : Hp) (s : Shared) (e : Value) (s' : Shared), CX w [] H s (fun _ _ _ => False) e s' → False) :
    PySem.W.WalkOS q loose XP YP r d [] (fun f vs => PySem.call f vs) := by
  intro w s_0 s₁ mg mb G Y fa o pm cd doc dV kV ho hd hcd hD hmg hg args vals as hpre hlay hrd hwl hlo
  obtain ⟨a, e1, e2⟩ := PySem.W.os_pre_some hpre
  obtain ⟨e3, hwi⟩ := Codec.encAll_of_decAll r.args args a e1
  subst e3
  have KX := hY w _ Y
  obtain ⟨fd, hb, hF⟩ := F w mg fa _ Y KX G.T.g hmg
  refine PySem.W.enter_call (codeAny_mono (spec_call (R := []) (cl := classAt s_0.heap) (d0 := r.ret.enc (Codec.app r.args r.f a)) KX G.T.g G.T.b G.T.builtins G.T.nolimit hg hwl (pl_encAll _ _) (layable_weight hlay) hr hF hb (by rw [encAll_len]; exact hlen)
    (fun H xs hO hS => hsp w H xs a hO hwi e2 hS) fun H e s' => hCX w H s₁ e s') fun r' s' hq => ?_)
  obtain ⟨u, as', rfl, h1, h2, h3, h4⟩ := hq
  exact ⟨.inl ⟨u, _, as', rfl, fun _ => rfl, h1, (OpenSpec.post_iff hwell hwi _ _).mpr rfl, fun z => Bool.noConfusion (show false = true from z)⟩, h2, h3, h4⟩
/-- the same where the promise hangs on the written part alone -/
theorem walk_specK {r : OpenSpec} {k : Nat} {q : Program} {loose : List Str} {XP : (Str → Option Value) → Heap → Prop} {YP : World → Heap → Prop} {d : DefRec} {K : Params → PySem.W.Frag} {CX : CXT} {ps : List Str} {sp : PySem.W.Frag → Sp}
    (hwell : r.wellSaid = true) (hdf : d.params.defaults = []) (hlen : r.args.length = ps.length) (hr : Room k callerA)
    (hY : ∀ (w : World) (h : Heap), YP w h → (K w.params).In h)
    (F : ∀ (w : World) (mg : Str → Option Value) (fa : Addr) (h : Heap), YP w h → (K w.params).In h → h.Ns mainGlobals mg → mg d.name = some (.ref fa) →
      ∃ fd : FuncData, (∀ (s : Shared) (us : List Value), us.length = ps.length → BindsTo s fd ⟨us, []⟩ (ps.zip us)) ∧
        ∀ base : Heap, (K w.params).In base → base.Ns mainGlobals mg → FnOk r.prog w (K w.params) mg base CX k fa fd ps (sp (K w.params)))
    (hsp : ∀ (K : PySem.W.Frag) (H : Hp) (xs : List V) (a : Codec.denoteAll r.args), OnlyF H → Codec.withinAll r.args a = true → Codec.app r.args r.asked a = true → DwAll K H xs (Codec.encAll r.args a) →
      sp K xs H (fun v H' => Dw K H' v (r.ret.enc (Codec.app r.args r.f a))) fun _ _ _ => False)
    (hCX : ∀ (H : Hp) (s : Shared) (e : Value) (s' : Shared), CX [] H s (fun _ _ _ => False) e s' → False) :
    PySem.W.WalkOS q loose XP YP r d [] (fun f vs => PySem.call f vs) :=
  walk_spec (K := K) (CX := fun _ => CX) (sp := fun w => sp (K w.params)) hwell hdf hlen hr hY F (fun w H xs a h1 h2 h3 h4 => hsp (K w.params) H xs a h1 h2 h3 h4) fun _ H s e s' => hCX H s e s'
end L2
end
end
section
set_option linter.all false
namespace Bm
open Kqv1
def ent {α : Type} : Nat → List (Option α) → List (Nat × α)
  | _, [] => []
  | k, none :: l => ent (k + 1) l
  | k, some x :: l => (k, x) :: ent (k + 1) l
section
variable {α : Type}
theorem ent_there : ∀ (k : Nat) (l : List (Option α)), (ent k l).map Prod.snd = l.filterMap id
  | _, [] => rfl
  | k, none :: l => by rw [ent, ent_there (k + 1) l]; rfl
  | k, some x :: l => by rw [ent, List.map_cons, ent_there (k + 1) l]; rfl
theorem ent_mem {n : Nat} {x : α} : ∀ {k : Nat} {l : List (Option α)}, (n, x) ∈ ent k l ↔ k ≤ n ∧ l.getD (n - k) none = some x
  | k, [] => by simp [ent]
  | k, none :: l => by
    rw [ent, ent_mem (k := k + 1) (l := l)]
    constructor
    · rintro ⟨h1, h2⟩
      refine ⟨by omega, ?_⟩
      rw [show n - k = (n - (k + 1)) + 1 by omega]
      exact h2
    · rintro ⟨h1, h2⟩
      by_cases e : n = k
      · subst e; simp at h2
      · refine ⟨by omega, ?_⟩
        rw [show n - k = (n - (k + 1)) + 1 by omega] at h2
        exact h2
  | k, some y :: l => by
    rw [ent, List.mem_cons, ent_mem (k := k + 1) (l := l)]
    constructor
    · rintro (h | ⟨h1, h2⟩)
      · cases h
        refine ⟨by omega, ?_⟩
        rw [Nat.sub_self]; rfl
      · refine ⟨by omega, ?_⟩
        rw [show n - k = (n - (k + 1)) + 1 by omega]
        exact h2
    · rintro ⟨h1, h2⟩
      by_cases e : n = k
      · subst e
        rw [Nat.sub_self] at h2
        have : y = x := Option.some.inj h2
        subst this
        exact .inl rfl
      · refine .inr ⟨by omega, ?_⟩
        rw [show n - k = (n - (k + 1)) + 1 by omega] at h2
        exact h2
theorem ent_mem0 {n : Nat} {x : α} {l : List (Option α)} : (n, x) ∈ ent 0 l ↔ l.getD n none = some x := by
  rw [ent_mem]; simp
theorem ent_lo {e : Nat × α} : ∀ {k : Nat} {l : List (Option α)}, e ∈ ent k l → k ≤ e.1
  | k, l, h => (ent_mem (n := e.1) (x := e.2)).mp h |>.1
theorem ent_lt {e : Nat × α} {l : List (Option α)} (h : e ∈ ent 0 l) : e.1 < l.length := by
  have h2 := (ent_mem0 (n := e.1) (x := e.2)).mp h
  by_cases q : e.1 < l.length
  · exact q
  · rw [List.getD_eq_getElem?_getD, List.getElem?_eq_none_iff.mpr (by omega)] at h2; cases h2
theorem ent_sorted : ∀ (k : Nat) (l : List (Option α)), ((ent k l).map Prod.fst).Pairwise (· < ·)
  | _, [] => by simp [ent]
  | k, none :: l => by rw [ent]; exact ent_sorted (k + 1) l
  | k, some x :: l => by
    rw [ent, List.map_cons, List.pairwise_cons]
    refine ⟨fun b hb => ?_, ent_sorted (k + 1) l⟩
    obtain ⟨e, he, rfl⟩ := List.mem_map.mp hb
    have := ent_lo he
    show k < e.1
    omega
theorem ent_nodup (k : Nat) (l : List (Option α)) : ((ent k l).map Prod.fst).Nodup := (ent_sorted k l).imp (fun h => by omega)
theorem ent_set_some {y : α} : ∀ {k n : Nat} {l : List (Option α)} {x : α}, l.getD n none = some x → ent k (l.set n (some y)) = (ent k l).map fun e => if e.1 = n + k then (e.1, y) else e
  | k, n, [], x, h => by simp at h
  | k, 0, none :: l, x, h => by simp at h
  | k, 0, some z :: l, x, h => by
    rw [List.set_cons_zero, ent, ent, List.map_cons, if_pos (by simp)]
    congr 1
    refine (List.map_id _).symm.trans (List.map_congr_left fun e he => ?_)
    have := ent_lo he
    rw [if_neg (by omega)]; rfl
  | k, n + 1, none :: l, x, h => by
    rw [List.set_cons_succ, ent, ent, ent_set_some (k := k + 1) (l := l) (x := x) h]
    rw [show n + (k + 1) = n + 1 + k by omega]
  | k, n + 1, some z :: l, x, h => by
    rw [List.set_cons_succ, ent, ent, ent_set_some (k := k + 1) (l := l) (x := x) h, List.map_cons, if_neg (by show ¬ k = _; omega)]
    rw [show n + (k + 1) = n + 1 + k by omega]
theorem ent_set_none : ∀ (k n : Nat) (l : List (Option α)), ent k (l.set n none) = (ent k l).filter fun e => !decide (e.1 = n + k)
  | k, n, [] => by simp [ent]
  | k, 0, none :: l => by
    rw [List.set_cons_zero, ent]
    symm
    rw [List.filter_eq_self]
    intro e he
    have := ent_lo he
    simp <;> omega
  | k, 0, some z :: l => by
    rw [List.set_cons_zero, ent, ent, List.filter_cons, if_neg (by simp)]
    symm
    rw [List.filter_eq_self]
    intro e he
    have := ent_lo he
    simp <;> omega
  | k, n + 1, none :: l => by
    rw [List.set_cons_succ, ent, ent, ent_set_none (k + 1) n l]
    rw [show n + (k + 1) = n + 1 + k by omega]
  | k, n + 1, some z :: l => by
    rw [List.set_cons_succ, ent, ent, ent_set_none (k + 1) n l, List.filter_cons, if_pos (by simp <;> omega)]
    rw [show n + (k + 1) = n + 1 + k by omega]
theorem slot_cons_none (l : List (Option α)) : slot (none :: l) = 0 := by simp [slot, List.findIdx?_cons]
theorem slot_cons_some (x : α) (l : List (Option α)) : slot (some x :: l) = slot l + 1 := by
  unfold slot
  rw [List.findIdx?_cons]
  simp <;> (cases (l.findIdx? Option.isNone) <;> simp)
theorem slot_none : ∀ (l : List (Option α)), l.getD (slot l) none = none
  | [] => rfl
  | none :: l => by rw [slot_cons_none]; rfl
  | some x :: l => by rw [slot_cons_some]; exact slot_none l
theorem slot_some : ∀ (l : List (Option α)) (n : Nat), n < slot l → ∃ x, l.getD n none = some x
  | [], n, h => by simp [slot] at h
  | none :: l, n, h => by rw [slot_cons_none] at h; omega
  | some x :: l, 0, h => ⟨x, rfl⟩
  | some x :: l, n + 1, h => by
    rw [slot_cons_some] at h
    exact slot_some l n (by omega)
theorem slot_le : ∀ (l : List (Option α)), slot l ≤ l.length
  | [] => Nat.le_refl _
  | none :: l => by rw [slot_cons_none]; omega
  | some x :: l => by rw [slot_cons_some]; have := slot_le l; simp <;> omega
theorem putIn_cons_none (l : List (Option α)) (x : α) : putIn (none :: l) x = some x :: l := by
  unfold putIn; rw [slot_cons_none, if_pos (by simp)]; rfl
theorem putIn_cons_some (l : List (Option α)) (y x : α) : putIn (some y :: l) x = some y :: putIn l x := by
  unfold putIn; rw [slot_cons_some]
  by_cases h : slot l < l.length
  · rw [if_pos h, if_pos (by simp <;> omega)]; rfl
  · rw [if_neg h, if_neg (by simp <;> omega)]; rfl
theorem ent_put (x : α) : ∀ (k : Nat) (l : List (Option α)), (ent k (putIn l x)).Perm ((slot l + k, x) :: ent k l)
  | k, [] => by show (ent k [some x]).Perm ((0 + k, x) :: ent k []); rw [Nat.zero_add]; exact .refl _
  | k, none :: l => by
    rw [putIn_cons_none, slot_cons_none, ent, ent, Nat.zero_add] <;> exact .refl _
  | k, some y :: l => by
    rw [putIn_cons_some, slot_cons_some, ent, ent]
    refine ((ent_put x (k + 1) l).cons (k, y)).trans ?_
    rw [show slot l + 1 + k = slot l + (k + 1) by omega]
    exact List.Perm.swap _ _ _
theorem putIn_length (x : α) (l : List (Option α)) : (putIn l x).length ≤ l.length + 1 := by
  unfold putIn
  split <;> simp
theorem ent_length : ∀ (k : Nat) (l : List (Option α)), (ent k l).length ≤ l.length
  | _, [] => Nat.le_refl _
  | k, none :: l => by rw [ent]; have := ent_length (k + 1) l; simp <;> omega
  | k, some x :: l => by rw [ent]; have := ent_length (k + 1) l; simp <;> omega
theorem ent_filter_range {P : Nat → Bool} {G : α → Bool} : ∀ (k : Nat) (l : List (Option α)), (∀ j, j < l.length → P (j + k) = match l.getD j none with | some x => G x | none => false) →
    (List.range' k l.length).filter P = ((ent k l).filter fun e => G e.2).map Prod.fst
  | k, [], _ => rfl
  | k, none :: l, h => by
    have h0 : P k = false := by have := h 0 (by simp); simpa using this
    rw [List.length_cons, List.range'_succ, List.filter_cons, if_neg (by rw [h0]; decide), ent]
    exact ent_filter_range (k + 1) l fun j hj => by
      have := h (j + 1) (by simp <;> omega)
      rw [show j + (k + 1) = j + 1 + k by omega]
      exact this
  | k, some x :: l, h => by
    have h0 : P k = G x := by have := h 0 (by simp); simpa using this
    have ih := ent_filter_range (P := P) (G := G) (k + 1) l fun j hj => by
      have := h (j + 1) (by simp <;> omega)
      rw [show j + (k + 1) = j + 1 + k by omega]
      exact this
    rw [List.length_cons, List.range'_succ, List.filter_cons, ent, List.filter_cons, ih, h0]
    cases G x <;> rfl
end
theorem stack_ent (m : Mould) (i : Nat) : Kqv1.stack m i = ((ent 0 m.plies).filter fun e => covers e.2 i).map Prod.fst := by
  unfold Kqv1.stack
  rw [List.range_eq_range']
  refine ent_filter_range (G := fun x => covers x i) 0 m.plies fun j hj => ?_
  rw [Nat.add_zero]
  cases m.plies.getD j none <;> rfl
theorem there_ent (m : Mould) : there m = (ent 0 m.plies).map Prod.snd := (ent_there 0 m.plies).symm
theorem layers_stack (m : Mould) (i : Nat) : layers m i = (Kqv1.stack m i).length := by
  unfold layers
  rw [stack_ent, there_ent, List.filter_map, List.length_map, List.length_map]
  rfl
theorem kindOf_ent {m : Mould} {e : Nat × Ply} (h : e ∈ ent 0 m.plies) : kindOf m e.1 = e.2.kind := by
  have h2 := (ent_mem0 (n := e.1) (x := e.2)).mp h
  unfold kindOf
  rw [h2]; rfl
theorem kinds_ent (m : Mould) (i : Nat) : (Kqv1.stack m i).map (kindOf m) = ((ent 0 m.plies).filter fun e => covers e.2 i).map fun e => e.2.kind := by
  rw [stack_ent, List.map_map]
  exact List.map_congr_left fun e he => kindOf_ent (List.mem_filter.mp he).1
end Bm
end
section
set_option linter.all false
namespace Bm
open Kqv1
def runF (l : List Nat) (h a : Nat) : Option (Nat × Nat) := if decide (h ≤ l.getD a 0) && (a == 0 || decide (l.getD (a - 1) 0 < h)) then some (a, ((List.range (l.length + 1)).find? fun b => decide (a < b) && decide (l.getD b 0 < h)).getD l.length) else none
theorem runs_eq (l : List Nat) (h : Nat) : runs l h = (List.range l.length).filterMap (runF l h) := rfl
structure RunInv (l : List Nat) (h i f : Nat) (rs : List (Nat × Nat)) : Prop where
  fi : f ≤ i
  hi : ∀ j, f ≤ j → j < i → h ≤ l.getD j 0
  lo : f = 0 ∨ l.getD (f - 1) 0 < h
  eq : rs = (List.range f).filterMap (runF l h)
theorem find_range {P : Nat → Bool} {n b : Nat} (hb : b < n) (hP : P b = true) (hlt : ∀ j, j < b → P j = false) : (List.range n).find? P = some b := by
  rw [List.find?_eq_some_iff_append]
  refine ⟨hP, List.range b, List.range' (b + 1) (n - b - 1), ?_, fun a ha => by rw [hlt a (List.mem_range.mp ha)]; rfl⟩
  rw [List.range_eq_range', List.range_eq_range', show n = b + ((n - b - 1) + 1) by omega, ← List.range'_append_1, Nat.zero_add, List.range'_succ]
  simp
theorem range_extend {α : Type} {F : Nat → Option α} {f i : Nat} (hfi : f ≤ i) (hn : ∀ j, f ≤ j → j < i → F j = none) : (List.range i).filterMap F = (List.range f).filterMap F := by
  rw [List.range_eq_range', List.range_eq_range', show i = f + (i - f) by omega, ← List.range'_append_1, List.filterMap_append]
  rw [show (List.range' (0 + f) (i - f)).filterMap F = [] from List.filterMap_eq_nil_iff.mpr fun j hj => by
    have := List.mem_range'_1.mp hj
    exact hn j (by omega) (by omega)]
  rw [List.append_nil]
variable {l : List Nat} {h i f : Nat} {rs : List (Nat × Nat)}
theorem RunInv.start : RunInv l h 0 0 [] := ⟨Nat.le_refl _, fun j h1 h2 => absurd h2 (Nat.not_lt_zero _), .inl rfl, rfl⟩
theorem RunInv.ge (R : RunInv l h i f rs) (q : h ≤ l.getD i 0) : RunInv l h (i + 1) f rs :=
  ⟨Nat.le_succ_of_le R.fi, fun j h1 h2 => by
    by_cases e : j = i
    · subst e; exact q
    · exact R.hi j h1 (by omega), R.lo, R.eq⟩
theorem runF_skip {l : List Nat} {h a : Nat} (h0 : 0 < a) (q : h ≤ l.getD (a - 1) 0) : runF l h a = none := by
  unfold runF
  rw [if_neg]
  simp
  intro _
  exact ⟨by omega, by simpa using q⟩
theorem RunInv.new (R : RunInv l h i f rs) (q : l.getD i 0 < h) (hf : f < i) (hl : i ≤ l.length) : runF l h f = some (f, i) := by
  unfold runF
  have h1 := R.hi f (Nat.le_refl _) hf
  rw [if_pos]
  · rw [find_range (b := i) (by omega) (by simp; exact ⟨hf, by simpa using q⟩) fun j hj => by
      by_cases e : f < j
      · have := R.hi j (by omega) hj
        simp at this ⊢
        intro _
        exact this
      · simp [e]]
    rfl
  · have := R.lo
    simp at this h1 ⊢
    exact ⟨h1, this⟩
theorem RunInv.cut (R : RunInv l h i f rs) (q : l.getD i 0 < h) (hf : f < i) (hl : i ≤ l.length) : (List.range (i + 1)).filterMap (runF l h) = rs ++ [(f, i)] := by
  have h1 := R.new q hf hl
  have e1 : (List.range (i + 1)).filterMap (runF l h) = (List.range (f + 1)).filterMap (runF l h) := by
    refine range_extend (by omega) fun j h1 h2 => ?_
    exact runF_skip (by omega) (R.hi (j - 1) (by omega) (by omega))
  rw [e1, List.range_succ, List.filterMap_append, ← R.eq]
  simp [h1]
theorem RunInv.lt_new (R : RunInv l h i f rs) (q : l.getD i 0 < h) (hf : f < i) (hl : i ≤ l.length) : RunInv l h (i + 1) (i + 1) (rs ++ [(f, i)]) :=
  ⟨Nat.le_refl _, fun j h1 h2 => absurd h2 (by omega), .inr q, (R.cut q hf hl).symm⟩
theorem RunInv.lt_old (R : RunInv l h i f rs) (q : l.getD i 0 < h) (hf : ¬ f < i) : RunInv l h (i + 1) (i + 1) rs := by
  have e : f = i := by have := R.fi; omega
  subst e
  refine ⟨Nat.le_refl _, fun j h1 h2 => absurd h2 (by omega), .inr q, ?_⟩
  rw [List.range_succ, List.filterMap_append, ← R.eq]
  have : runF l h f = none := by
    unfold runF
    rw [if_neg]
    simp at q ⊢
    intro z
    omega
  simp [this]
theorem RunInv.end_new (R : RunInv l h l.length f rs) (hh : 1 ≤ h) (hf : f < l.length) : runs l h = rs ++ [(f, l.length)] := by
  have q : l.getD l.length 0 < h := by simp; omega
  have := R.cut q hf (Nat.le_refl _)
  rw [runs_eq, ← this, List.range_succ, List.filterMap_append]
  have e : runF l h l.length = none := by
    unfold runF
    rw [if_neg]
    simp
    omega
  simp [e]
theorem RunInv.end_old (R : RunInv l h l.length f rs) (hf : ¬ f < l.length) : runs l h = rs := by
  have e : f = l.length := by have := R.fi; omega
  rw [runs_eq, R.eq, e]
/-- how many of the spans cover j -/
def cov (ps : List (Nat × Nat)) (j : Nat) : Nat := (ps.filter fun p => decide (p.1 ≤ j) && decide (j < p.2)).length
theorem cov_append (a b : List (Nat × Nat)) (j : Nat) : cov (a ++ b) j = cov a j + cov b j := by
  unfold cov; rw [List.filter_append, List.length_append]
theorem cov_one (a b j : Nat) : cov [(a, b)] j = if a ≤ j ∧ j < b then 1 else 0 := by
  unfold cov
  by_cases h : a ≤ j ∧ j < b
  · rw [if_pos h, List.filter_cons, if_pos (by simp [h])]; rfl
  · rw [if_neg h, List.filter_cons, if_neg (by simp; omega)]; rfl
structure RunCov (l : List Nat) (h i f : Nat) (rs : List (Nat × Nat)) : Prop where
  inv : RunInv l h i f rs
  val : ∀ p ∈ rs, p.1 < p.2 ∧ p.2 ≤ i
  cov : ∀ j, cov rs j = if j < f ∧ h ≤ l.getD j 0 then 1 else 0
theorem runCov (l : List Nat) (h : Nat) : ∀ i, i ≤ l.length → ∃ f rs, RunCov l h i f rs
  | 0, _ => ⟨0, [], .start, fun p hp => (by cases hp), fun j => (by rw [if_neg (by omega)]; rfl)⟩
  | i + 1, hi => by
    obtain ⟨f, rs, R, v, c⟩ := runCov l h i (by omega)
    by_cases q : h ≤ l.getD i 0
    · exact ⟨f, rs, R.ge q, fun p hp => ⟨(v p hp).1, Nat.le_succ_of_le (v p hp).2⟩, c⟩
    · have q' : l.getD i 0 < h := by omega
      by_cases hf : f < i
      · refine ⟨i + 1, rs ++ [(f, i)], R.lt_new q' hf (by omega), fun p hp => ?_, fun j => ?_⟩
        · rcases List.mem_append.mp hp with hp | hp
          · exact ⟨(v p hp).1, Nat.le_succ_of_le (v p hp).2⟩
          · cases List.mem_singleton.mp hp
            exact ⟨hf, Nat.le_succ _⟩
        · rw [cov_append, c, cov_one]
          by_cases h1 : j < f
          · rw [if_neg (show ¬ (f ≤ j ∧ j < i) by omega)]
            by_cases h2 : h ≤ l.getD j 0
            · rw [if_pos ⟨h1, h2⟩, if_pos ⟨by omega, h2⟩]
            · rw [if_neg (fun z => h2 z.2), if_neg (fun z => h2 z.2)]
          · rw [if_neg (fun z => h1 z.1)]
            by_cases h2 : j < i
            · have := R.hi j (by omega) h2
              rw [if_pos ⟨by omega, h2⟩, if_pos ⟨by omega, this⟩]
            · rw [if_neg (fun z => h2 z.2)]
              by_cases h3 : j = i
              · subst h3
                rw [if_neg (fun z => q z.2)]
              · rw [if_neg (by omega)]
      · refine ⟨i + 1, rs, R.lt_old q' hf, fun p hp => ⟨(v p hp).1, Nat.le_succ_of_le (v p hp).2⟩, fun j => ?_⟩
        have e : f = i := by have := R.fi; omega
        subst e
        rw [c]
        by_cases h3 : j = f
        · subst h3
          rw [if_neg (by omega), if_neg (fun z => q z.2)]
        · by_cases h2 : h ≤ l.getD j 0
          · by_cases h4 : j < f
            · rw [if_pos ⟨h4, h2⟩, if_pos ⟨by omega, h2⟩]
            · rw [if_neg (fun z => h4 z.1), if_neg (by omega)]
          · rw [if_neg (fun z => h2 z.2), if_neg (fun z => h2 z.2)]
theorem runs_val (l : List Nat) {h : Nat} (hh : 1 ≤ h) : (∀ p ∈ runs l h, p.1 < p.2 ∧ p.2 ≤ l.length) ∧ ∀ j, cov (runs l h) j = if h ≤ l.getD j 0 then 1 else 0 := by
  obtain ⟨f, rs, R, v, c⟩ := runCov l h l.length (Nat.le_refl _)
  have out : ∀ j, l.length ≤ j → ¬ h ≤ l.getD j 0 := fun j hj z => by
    rw [List.getD_eq_getElem?_getD, List.getElem?_eq_none_iff.mpr hj] at z
    simp at z; omega
  by_cases hf : f < l.length
  · rw [R.end_new hh hf]
    refine ⟨fun p hp => ?_, fun j => ?_⟩
    · rcases List.mem_append.mp hp with hp | hp
      · exact v p hp
      · cases List.mem_singleton.mp hp
        exact ⟨hf, Nat.le_refl _⟩
    · rw [cov_append, c, cov_one]
      by_cases h2 : h ≤ l.getD j 0
      · have hj : j < l.length := Nat.lt_of_not_le fun z => out j z h2
        rw [if_pos h2]
        by_cases h1 : j < f
        · rw [if_pos ⟨h1, h2⟩, if_neg (by omega)]
        · rw [if_neg (fun z => h1 z.1), if_pos ⟨by omega, hj⟩]
      · rw [if_neg h2, if_neg (fun z => h2 z.2), if_neg]
        rintro ⟨h3, h4⟩
        exact h2 (R.hi j h3 h4)
  · rw [R.end_old hf]
    refine ⟨v, fun j => ?_⟩
    rw [c]
    by_cases h2 : h ≤ l.getD j 0
    · have hj : j < l.length := Nat.lt_of_not_le fun z => out j z h2
      rw [if_pos h2, if_pos ⟨by omega, h2⟩]
    · rw [if_neg h2, if_neg (fun z => h2 z.2)]
theorem flat_cov (l : List Nat) (j : Nat) : ∀ n, cov ((List.range n).flatMap fun h => runs l (h + 1)) j = min n (l.getD j 0)
  | 0 => by simp [cov]
  | n + 1 => by
    rw [List.range_succ, List.flatMap_append, cov_append, flat_cov l j n]
    simp only [List.flatMap_cons, List.flatMap_nil, List.append_nil]
    rw [(runs_val l (h := n + 1) (by omega)).2 j]
    split <;> omega
theorem foldl_max : ∀ (l : List Nat) (a : Nat), a ≤ l.foldl max a ∧ (∀ x ∈ l, x ≤ l.foldl max a) ∧ (l.foldl max a = a ∨ l.foldl max a ∈ l)
  | [], a => ⟨Nat.le_refl _, fun x hx => (by cases hx), .inl rfl⟩
  | y :: l, a => by
    obtain ⟨h1, h2, h3⟩ := foldl_max l (max a y)
    refine ⟨by show a ≤ l.foldl max (max a y); omega, fun x hx => ?_, ?_⟩
    · rcases List.mem_cons.mp hx with rfl | hx
      · show x ≤ l.foldl max (max a x); omega
      · exact h2 x hx
    · show l.foldl max (max a y) = a ∨ l.foldl max (max a y) ∈ y :: l
      rcases h3 with h3 | h3
      · by_cases q : y ≤ a
        · left; omega
        · right
          rw [h3, show max a y = y by omega]
          exact List.mem_cons_self ..
      · exact .inr (List.mem_cons_of_mem _ h3)
theorem getD_le_max (l : List Nat) (j : Nat) : l.getD j 0 ≤ l.foldl max 0 := by
  rw [List.getD_eq_getElem?_getD]
  cases e : l[j]? with
  | none => simp
  | some x => exact (foldl_max l 0).2.1 x (List.mem_of_getElem? e)
theorem plan_cov (l : List Nat) (j : Nat) : cov (planOf l) j = l.getD j 0 := by
  unfold planOf
  rw [flat_cov]
  have := getD_le_max l j
  omega
theorem plan_val (l : List Nat) : ∀ p ∈ planOf l, p.1 < p.2 ∧ p.2 ≤ l.length := fun p hp => by
  unfold planOf at hp
  obtain ⟨h, _, hp⟩ := List.mem_flatMap.mp hp
  exact (runs_val l (h := h + 1) (by omega)).1 p hp
theorem sum_cons (a : Nat) (l : List Nat) : Kqv1.sum (a :: l) = a + Kqv1.sum l := rfl
theorem sum_append (a b : List Nat) : Kqv1.sum (a ++ b) = Kqv1.sum a + Kqv1.sum b := by
  induction a with
  | nil => simp [Kqv1.sum]
  | cons x a ih => rw [List.cons_append, sum_cons, sum_cons, ih]; omega
theorem sum_map_add (F G : Nat → Nat) : ∀ l : List Nat, Kqv1.sum (l.map fun j => F j + G j) = Kqv1.sum (l.map F) + Kqv1.sum (l.map G)
  | [] => rfl
  | x :: l => by rw [List.map_cons, List.map_cons, List.map_cons, sum_cons, sum_cons, sum_cons, sum_map_add F G l]; omega
theorem sum_map_mul {α : Type} (F : α → Nat) (k : Nat) : ∀ l : List α, Kqv1.sum (l.map fun j => F j * k) = Kqv1.sum (l.map F) * k
  | [] => by simp [Kqv1.sum]
  | x :: l => by rw [List.map_cons, List.map_cons, sum_cons, sum_cons, sum_map_mul F k l, Nat.add_mul]
theorem sum_span (a b : Nat) (hab : a ≤ b) : ∀ n, b ≤ n → Kqv1.sum ((List.range n).map fun j => if a ≤ j ∧ j < b then 1 else 0) = b - a := by
  have : ∀ n, Kqv1.sum ((List.range n).map fun j => if a ≤ j ∧ j < b then 1 else 0) = min n b - a := by
    intro n
    induction n with
    | zero => simp [Kqv1.sum]
    | succ n ih =>
      rw [List.range_succ, List.map_append, sum_append, ih]
      simp only [List.map_cons, List.map_nil, sum_cons]
      show _ + ((if a ≤ n ∧ n < b then 1 else 0) + 0) = _
      split <;> omega
  intro n hn
  rw [this n]; omega
theorem sum_cov (n : Nat) : ∀ ps : List (Nat × Nat), (∀ p ∈ ps, p.1 < p.2 ∧ p.2 ≤ n) → Kqv1.sum (ps.map fun p => p.2 - p.1) = Kqv1.sum ((List.range n).map (cov ps))
  | [], _ => by
    show 0 = _
    induction (List.range n) with
    | nil => rfl
    | cons a l ih => rw [List.map_cons, sum_cons, ← ih]; rfl
  | (a, b) :: ps, h => by
    rw [List.map_cons, sum_cons, sum_cov n ps fun p hp => h p (List.mem_cons_of_mem _ hp)]
    have e : (cov ((a, b) :: ps)) = fun j => (if a ≤ j ∧ j < b then 1 else 0) + cov ps j := by
      funext j
      rw [show (a, b) :: ps = [(a, b)] ++ ps from rfl, cov_append, cov_one]
    have := h (a, b) (List.mem_cons_self ..)
    rw [e, sum_map_add, sum_span a b (by have := this.1; simp at this; omega) n this.2]
theorem sum_getD : ∀ l : List Nat, Kqv1.sum ((List.range l.length).map fun j => l.getD j 0) = Kqv1.sum l := by
  intro l
  congr 1
  apply List.ext_getElem
  · simp
  · intro i h1 h2
    simp at h1
    simp [h1]
theorem plan_sum (l : List Nat) : Kqv1.sum ((planOf l).map fun p => p.2 - p.1) = Kqv1.sum l := by
  rw [sum_cov l.length _ (plan_val l), show cov (planOf l) = fun j => l.getD j 0 from funext (plan_cov l), sum_getD]
theorem fabric_eq (m : Mould) : fabric m = Kqv1.sum (lacks m) * m.long := by
  unfold fabric plan
  rw [sum_map_mul (fun p : Nat × Nat => p.2 - p.1), plan_sum]
theorem len_le_sum : ∀ ps : List (Nat × Nat), (∀ p ∈ ps, p.1 < p.2) → ps.length ≤ Kqv1.sum (ps.map fun p => p.2 - p.1)
  | [], _ => Nat.le_refl _
  | p :: ps, h => by
    rw [List.map_cons, sum_cons, List.length_cons]
    have := len_le_sum ps fun q hq => h q (List.mem_cons_of_mem _ hq)
    have := h p (List.mem_cons_self ..)
    omega
theorem plan_len (l : List Nat) : (planOf l).length ≤ Kqv1.sum l := by
  rw [← plan_sum]
  exact len_le_sum _ fun p hp => (plan_val l p hp).1
theorem sum_le {c : Nat} : ∀ l : List Nat, (∀ x ∈ l, x ≤ c) → Kqv1.sum l ≤ l.length * c
  | [], _ => by simp [Kqv1.sum]
  | x :: l, h => by
    rw [sum_cons, List.length_cons, Nat.add_mul]
    have := sum_le l fun y hy => h y (List.mem_cons_of_mem _ hy)
    have := h x (List.mem_cons_self ..)
    omega
end Bm
end
section
set_option linter.all false
namespace Bm
open Kqv1
/-! ### what is laid, lifted, swapped -/
structure Fit (m : Mould) : Prop where
  lo : m.long ≤ 100
  st : m.need ≠ []
  sl : m.need.length ≤ 12
  nd : ∀ x ∈ m.need, x ≤ 12
  s4 : m.stock.length = 4
  pl : (there m).length ≤ 40
  pv : ∀ p ∈ there m, p.from_ < p.to ∧ p.to ≤ stations m
  ly : ∀ i, layers m i ≤ needs m i
  us : m.used = Kqv1.sum ((there m).map (long m))
theorem sum_perm {a b : List Nat} (h : a.Perm b) : Kqv1.sum a = Kqv1.sum b := by
  induction h with
  | nil => rfl
  | cons x _ ih => rw [sum_cons, sum_cons, ih]
  | swap x y l => rw [sum_cons, sum_cons, sum_cons, sum_cons]; omega
  | trans _ _ h1 h2 => exact h1.trans h2
theorem there_of_perm {m m' : Mould} (h : (ent 0 m'.plies).Perm (ent 0 m.plies)) : (there m').Perm (there m) := by
  rw [there_ent, there_ent]; exact h.map _
theorem there_laid (m : Mould) (p : Ply) : (there (laid m p)).Perm (p :: there m) := by
  rw [there_ent, there_ent]
  exact (ent_put p 0 m.plies).map Prod.snd
theorem layers_perm {m m' : Mould} (h : (there m').Perm (there m)) (i : Nat) : layers m' i = layers m i := (h.filter _).length_eq
theorem layers_cons {m m' : Mould} {p : Ply} (h : (there m').Perm (p :: there m)) (i : Nat) : layers m' i = (if covers p i = true then 1 else 0) + layers m i := by
  unfold layers
  rw [(h.filter _).length_eq, List.filter_cons]
  by_cases q : covers p i = true
  · rw [if_pos q, if_pos q, List.length_cons]; omega
  · rw [if_neg q, if_neg q]; omega
theorem layers_append {m m' : Mould} {ps : List Ply} (h : (there m').Perm (ps ++ there m)) (i : Nat) : layers m' i = (ps.filter fun p => covers p i).length + layers m i := by
  unfold layers
  rw [(h.filter _).length_eq, List.filter_append, List.length_append]
theorem long_eq {m m' : Mould} (h : m'.long = m.long) : long m' = long m := by funext p; unfold long; rw [h]
/-! ### the plan laid -/
structure LaidTo (m : Mould) (ps : List Ply) (k : Nat) (m' : Mould) : Prop where
  lo : m'.long = m.long
  en : m'.ends = m.ends
  nd : m'.need = m.need
  sc : m'.scrap = m.scrap
  sl : m'.stock.length = m.stock.length
  th : (there m').Perm (ps ++ there m)
  us : m'.used = m.used + Kqv1.sum (ps.map (long m))
  hv : have_ m' k = have_ m k - Kqv1.sum (ps.map (long m))
theorem LaidTo.nil (m : Mould) (k : Nat) : LaidTo m [] k m := ⟨rfl, rfl, rfl, rfl, rfl, .refl _, by simp [Kqv1.sum], by simp [Kqv1.sum]⟩
theorem have_set {m : Mould} {k v : Nat} (h : k < m.stock.length) : (m.stock.set k v).getD k 0 = v := by
  simp [h]
theorem LaidTo.snoc {m m' : Mould} {ps : List Ply} {p : Ply} {k : Nat} (L : LaidTo m ps k m') (hk : p.kind = k) (h4 : k < m.stock.length) : LaidTo m (ps ++ [p]) k (laid m' p) := by
  have hl : long m' = long m := long_eq L.lo
  refine ⟨L.lo, L.en, L.nd, L.sc, by show (m'.stock.set _ _).length = _; rw [List.length_set]; exact L.sl, ?_, ?_, ?_⟩
  · refine (there_laid m' p).trans ((L.th.cons p).trans ?_)
    rw [List.append_assoc]
    exact List.perm_middle.symm
  · show m'.used + long m' p = _
    rw [L.us, hl, List.map_append, sum_append]
    simp [Kqv1.sum]; omega
  · show (m'.stock.set p.kind (have_ m' p.kind - long m' p)).getD k 0 = _
    rw [hk, have_set (m := m') (by rw [L.sl]; exact h4), L.hv, hl, List.map_append, sum_append]
    simp [Kqv1.sum]; omega
theorem plies_cov (m : Mould) (k i : Nat) : ((plies m k).filter fun p => covers p i).length = (lacks m).getD i 0 := by
  rw [← plan_cov]
  unfold plies cov Kqv1.plan
  rw [List.filter_map, List.length_map]
  rfl
theorem lacks_getD (m : Mould) (i : Nat) (h : i < stations m) : (lacks m).getD i 0 = missing m i := by
  unfold lacks
  simp [h]
theorem lacks_len (m : Mould) : (lacks m).length = stations m := by unfold lacks; simp
theorem plies_sum (m : Mould) (k : Nat) : Kqv1.sum ((plies m k).map (long m)) = fabric m := by
  unfold plies fabric; rw [List.map_map]; rfl
theorem Fit.out {m : Mould} (F : Fit m) {i : Nat} (h : stations m ≤ i) : layers m i = 0 := by
  unfold layers
  rw [List.length_eq_zero_iff, List.filter_eq_nil_iff]
  intro p hp
  have := (F.pv p hp).2
  unfold covers
  simp
  omega
theorem Fit.followed {m m' : Mould} {k : Nat} (F : Fit m) (L : LaidTo m (plies m k) k m') (h40 : (there m).length + (Kqv1.plan m).length ≤ 40) : Fit m' := by
  have hs : stations m' = stations m := by unfold stations; rw [L.nd]
  refine ⟨by rw [L.lo]; exact F.lo, by rw [L.nd]; exact F.st, by rw [L.nd]; exact F.sl, by rw [L.nd]; exact F.nd, by rw [L.sl]; exact F.s4, ?_, fun p hp => ?_, fun i => ?_, ?_⟩
  · rw [L.th.length_eq, List.length_append]
    have : (plies m k).length = (Kqv1.plan m).length := by unfold plies; rw [List.length_map]
    omega
  · rw [hs]
    rcases List.mem_append.mp (L.th.mem_iff.mp hp) with h | h
    · unfold plies at h
      obtain ⟨q, hq, rfl⟩ := List.mem_map.mp h
      have := plan_val (lacks m) q hq
      rw [lacks_len] at this
      exact this
    · exact F.pv p h
  · rw [layers_append L.th, plies_cov, show needs m' i = needs m i by unfold needs; rw [L.nd]]
    by_cases h : i < stations m
    · rw [lacks_getD m i h]
      have := F.ly i
      unfold missing
      omega
    · rw [F.out (by omega), List.getD_eq_getElem?_getD, List.getElem?_eq_none_iff.mpr (by rw [lacks_len]; omega)]
      simp
  · rw [L.us, F.us, long_eq L.lo, sum_perm (L.th.map (long m)), List.map_append, sum_append]
    omega
theorem Fit.laid {m : Mould} {p : Ply} (F : Fit m) (ok : okPly m p = true) (rm : room m p = true) (h40 : (there m).length < 40) : Fit (laid m p) := by
  have th := there_laid m p
  have h1 : p.from_ < p.to ∧ p.to ≤ stations m ∧ p.kind < 4 := by
    unfold okPly at ok
    simp at ok
    exact ⟨ok.1.1, ok.1.2, ok.2⟩
  refine ⟨F.lo, F.st, F.sl, F.nd, by show (m.stock.set _ _).length = 4; rw [List.length_set]; exact F.s4, by rw [th.length_eq, List.length_cons]; omega, fun q hq => ?_, fun i => ?_, ?_⟩
  · rcases List.mem_cons.mp (th.mem_iff.mp hq) with h | h
    · rw [h]; exact ⟨h1.1, h1.2.1⟩
    · exact F.pv q h
  · rw [layers_cons th]
    show _ ≤ needs m i
    have hi := F.ly i
    by_cases q : covers p i = true
    · rw [if_pos q]
      unfold covers at q
      simp at q
      unfold room at rm
      rw [List.all_eq_true] at rm
      have := rm (i - p.from_) (List.mem_range.mpr (by omega))
      rw [show p.from_ + (i - p.from_) = i by omega] at this
      simp at this
      unfold missing at this
      omega
    · rw [if_neg q]; omega
  · show m.used + long m p = _
    rw [sum_perm (th.map _), List.map_cons, sum_cons, F.us]
    show _ = long m p + Kqv1.sum ((there m).map (long m))
    omega
theorem there_lift {m : Mould} {n : Nat} {x : Ply} (h : m.plies.getD n none = some x) : (there m).Perm (x :: there { m with plies := m.plies.set n none }) := by
  have e : ent 0 (m.plies.set n none) = (ent 0 m.plies).filter fun e => !decide (e.1 = n) := ent_set_none 0 n m.plies
  have hm : (n, x) ∈ ent 0 m.plies := ent_mem0.mpr h
  have p : (ent 0 m.plies).Perm ((n, x) :: ent 0 (m.plies.set n none)) := by
    rw [e]
    have nd := ent_nodup 0 m.plies
    revert hm nd
    generalize ent 0 m.plies = l
    intro hm nd
    induction l with
    | nil => cases hm
    | cons a l ih =>
      rw [List.map_cons, List.nodup_cons] at nd
      rcases List.mem_cons.mp hm with h | h
      · subst h
        rw [List.filter_cons, if_neg (by simp)]
        refine List.Perm.cons _ ?_
        have : l.filter (fun e => !decide (e.1 = n)) = l := by
          rw [List.filter_eq_self]
          intro b hb
          have : b.1 ≠ n := fun z => nd.1 (List.mem_map.mpr ⟨b, hb, z⟩)
          simp [this]
        rw [this]
      · have hne : a.1 ≠ n := fun z => nd.1 (List.mem_map.mpr ⟨(n, x), h, z.symm⟩)
        rw [List.filter_cons, if_pos (by simp [hne])]
        exact ((ih h nd.2).cons a).trans (List.Perm.swap _ _ _)
  rw [there_ent, there_ent]
  exact p.map Prod.snd
theorem Fit.lifted {m : Mould} {n : Nat} {x : Ply} (F : Fit m) (h : m.plies.getD n none = some x) : Fit { m with plies := m.plies.set n none, used := m.used - long m x, scrap := m.scrap + long m x } := by
  have th := there_lift h
  have hlen := th.length_eq
  rw [List.length_cons] at hlen
  refine ⟨F.lo, F.st, F.sl, F.nd, F.s4, ?_, fun q hq => F.pv q (th.mem_iff.mpr (List.mem_cons_of_mem _ hq)), fun i => ?_, ?_⟩
  · have := F.pl
    show (there { m with plies := m.plies.set n none }).length ≤ 40
    omega
  · have := F.ly i
    have e := layers_cons th i
    show layers { m with plies := m.plies.set n none } i ≤ needs m i
    omega
  · show m.used - long m x = Kqv1.sum ((there { m with plies := m.plies.set n none }).map (long m))
    have e := sum_perm (th.map (long m))
    rw [List.map_cons, sum_cons] at e
    have := F.us
    omega
theorem ent_swap {m : Mould} {p q : Nat} {x y : Ply} (hp : m.plies.getD p none = some x) (hq : m.plies.getD q none = some y) (hne : p ≠ q) :
    ent 0 ((m.plies.set p (some y)).set q (some x)) = (ent 0 m.plies).map fun e => if e.1 = q then (e.1, x) else if e.1 = p then (e.1, y) else e := by
  have h2 : (m.plies.set p (some y)).getD q none = some y := by
    rw [List.getD_eq_getElem?_getD, List.getElem?_set_ne hne, ← List.getD_eq_getElem?_getD]; exact hq
  rw [ent_set_some h2, ent_set_some hp, List.map_map]
  refine List.map_congr_left fun e he => ?_
  simp only [Function.comp, Nat.add_zero]
  by_cases h1 : e.1 = p
  · have h2 : ¬ e.1 = q := fun h2 => hne (h1.symm.trans h2)
    simp only [h1, h2, if_true, if_false, show ¬ p = q from hne]
  · by_cases h2 : e.1 = q
    · simp only [h2, if_true, show ¬ q = p from fun z => hne z.symm, if_false]
    · simp only [h1, h2, if_false]
theorem there_swap {m : Mould} {p q : Nat} {x y : Ply} (hp : m.plies.getD p none = some x) (hq : m.plies.getD q none = some y) (hne : p ≠ q) :
    (there { m with plies := (m.plies.set p (some y)).set q (some x) }).Perm (there m) := by
  have a := there_lift hp
  have h1 : (m.plies.set p none).getD q none = some y := by
    rw [List.getD_eq_getElem?_getD, List.getElem?_set_ne hne, ← List.getD_eq_getElem?_getD]; exact hq
  have b := there_lift (m := { m with plies := m.plies.set p none }) h1
  have hpl : p < m.plies.length := by
    by_cases z : p < m.plies.length
    · exact z
    · rw [List.getD_eq_getElem?_getD, List.getElem?_eq_none_iff.mpr (by omega)] at hp; cases hp
  have hql : q < m.plies.length := by
    by_cases z : q < m.plies.length
    · exact z
    · rw [List.getD_eq_getElem?_getD, List.getElem?_eq_none_iff.mpr (by omega)] at hq; cases hq
  have h2 : ((m.plies.set p (some y)).set q (some x)).getD p none = some y := by
    rw [List.getD_eq_getElem?_getD, List.getElem?_set_ne (fun z => hne z.symm), List.getElem?_set_self hpl]; rfl
  have c := there_lift (m := { m with plies := (m.plies.set p (some y)).set q (some x) }) h2
  have h3 : (((m.plies.set p (some y)).set q (some x)).set p none).getD q none = some x := by
    rw [List.getD_eq_getElem?_getD, List.getElem?_set_ne hne, List.getElem?_set_self (by rw [List.length_set]; exact hql)]; rfl
  have d := there_lift (m := { m with plies := ((m.plies.set p (some y)).set q (some x)).set p none }) h3
  have e : (((m.plies.set p (some y)).set q (some x)).set p none).set q none = (m.plies.set p none).set q none := by
    apply List.ext_getElem?
    intro i
    simp only [List.getElem?_set, List.length_set]
    by_cases h1 : q = i
    · simp [h1]
    · by_cases h2 : p = i
      · simp [h1, h2]
      · simp [h1, h2]
  refine c.trans ((d.cons y).trans ?_)
  refine List.Perm.trans ?_ (a.trans (b.cons x)).symm
  show (y :: x :: there { m with plies := (((m.plies.set p (some y)).set q (some x)).set p none).set q none }).Perm (x :: y :: there { m with plies := (m.plies.set p none).set q none })
  rw [e]
  exact List.Perm.swap _ _ _
theorem Fit.swapped {m : Mould} {p q : Nat} {x y : Ply} (F : Fit m) (hp : m.plies.getD p none = some x) (hq : m.plies.getD q none = some y) (hne : p ≠ q) :
    Fit { m with plies := (m.plies.set p (some y)).set q (some x) } := by
  have th := there_swap hp hq hne
  refine ⟨F.lo, F.st, F.sl, F.nd, F.s4, by rw [th.length_eq]; exact F.pl, fun r hr => F.pv r (th.mem_iff.mp hr), fun i => ?_, ?_⟩
  · rw [layers_perm th]; exact F.ly i
  · rw [sum_perm (th.map _)]; exact F.us
theorem Fit.setNeed {m : Mould} {i n : Nat} (F : Fit m) (hi : i < stations m) (hn : n ≤ 12) (hl : layers m i ≤ n) : Fit { m with need := m.need.set i n } := by
  have hs : stations { m with need := m.need.set i n } = stations m := by unfold stations; rw [List.length_set]
  refine ⟨F.lo, ?_, by rw [List.length_set]; exact F.sl, fun x hx => ?_, F.s4, F.pl, fun p hp => by rw [hs]; exact F.pv p hp, fun j => ?_, F.us⟩
  · intro z
    have := congrArg List.length z
    rw [List.length_set] at this
    exact F.st (List.length_eq_zero_iff.mp this)
  · rcases List.mem_or_eq_of_mem_set hx with h | h
    · exact F.nd x h
    · omega
  · show layers m j ≤ (m.need.set i n).getD j 0
    by_cases e : i = j
    · subst e
      rw [List.getD_eq_getElem?_getD, List.getElem?_set_self hi]
      exact hl
    · rw [List.getD_eq_getElem?_getD, List.getElem?_set_ne e, ← List.getD_eq_getElem?_getD]
      exact F.ly j
theorem Fit.rolled {m : Mould} {k n : Nat} (F : Fit m) : Fit { m with stock := m.stock.set k n } :=
  ⟨F.lo, F.st, F.sl, F.nd, by show (m.stock.set _ _).length = 4; rw [List.length_set]; exact F.s4, F.pl, F.pv, F.ly, F.us⟩
theorem Fit.begun {l e : Nat} {n : List Nat} (h1 : l ≤ 100) (h2 : n ≠ []) (h3 : n.length ≤ 12) (h4 : ∀ x ∈ n, x ≤ 12) : Fit ⟨l, e, n, [], [0, 0, 0, 0], 0, 0⟩ :=
  ⟨h1, h2, h3, h4, rfl, Nat.zero_le _, fun p hp => (by cases hp), fun i => Nat.zero_le _, rfl⟩
/-! ### ends -/
def endsOf (sp : List (Nat × Nat)) (st b : Nat) : Nat := if b = 0 ∨ st ≤ b then 0 else (sp.filter fun p => p.1 == b || p.2 == b).length
theorem endsOf_perm {a b : List (Nat × Nat)} (h : a.Perm b) (st j : Nat) : endsOf a st j = endsOf b st j := by
  unfold endsOf; rw [(h.filter _).length_eq]
theorem endsAt_eq (m : Mould) (b : Nat) : endsAt m b = endsOf ((there m).map fun p => (p.from_, p.to)) (stations m) b := by
  unfold endsAt endsOf
  rw [List.filter_map, List.length_map]; rfl
theorem there_with (m : Mould) (l : List Ply) : there (with_ m l) = there m ++ l := by
  unfold there with_
  rw [List.filterMap_append]
  congr 1
  induction l with
  | nil => rfl
  | cons a l ih => rw [List.map_cons, List.filterMap_cons]; simp only [id]; rw [ih]
theorem endsOf_snoc (sp : List (Nat × Nat)) (f b st j : Nat) (h1 : f < b) (h2 : b ≤ st) : endsOf (sp ++ [(f, b)]) st j = endsOf sp st j + if (0 < f ∧ j = f) ∨ (b < st ∧ j = b) then 1 else 0 := by
  unfold endsOf
  by_cases h : j = 0 ∨ st ≤ j
  · rw [if_pos h, if_pos h, if_neg (by omega)]
  · rw [if_neg h, if_neg h, List.filter_append, List.length_append]
    congr 1
    by_cases q : f = j ∨ b = j
    · rw [if_pos (by omega), List.filter_cons, if_pos (by simp; exact q)]; rfl
    · rw [if_neg (by omega), List.filter_cons, if_neg (by simp; omega)]; rfl
theorem map_range_set {g : Nat → Nat} {n f v : Nat} : ((List.range n).map g).set f v = (List.range n).map fun j => if j = f then v else g j := by
  apply List.ext_getElem?
  intro i
  rw [List.getElem?_set]
  simp only [List.length_map, List.length_range, List.getElem?_map]
  by_cases h : f = i
  · subst h
    rw [if_pos rfl]
    by_cases h2 : f < n
    · rw [if_pos h2, List.getElem?_range h2]; simp
    · rw [if_neg h2, List.getElem?_eq_none_iff.mpr (by simp; omega)]; rfl
  · rw [if_neg h]
    by_cases h2 : i < n
    · rw [List.getElem?_range h2]; simp [show ¬ i = f from fun z => h z.symm]
    · rw [List.getElem?_eq_none_iff.mpr (by simp; omega)]; rfl
theorem max_unique {l : List Nat} {m : Nat} (h1 : m ∈ l) (h2 : ∀ y ∈ l, y ≤ m) : l.foldl max 0 = m := by
  obtain ⟨a, b, c⟩ := foldl_max l 0
  have := b m h1
  rcases c with c | c
  · omega
  · have := h2 _ c; omega
theorem findIdx_max {l : List Nat} {m : Nat} (h1 : m ∈ l) : ∃ j, (l.findIdx? fun x => x == m) = some j ∧ l[j]? = some m ∧ ∀ i, i < j → ∀ z, l[i]? = some z → z ≠ m := by
  cases e : l.findIdx? fun x => x == m with
  | none =>
    rw [List.findIdx?_eq_none_iff] at e
    have := e m h1
    simp at this
  | some j =>
    rw [List.findIdx?_eq_some_iff_getElem] at e
    obtain ⟨h, h2, h3⟩ := e
    refine ⟨j, rfl, ?_, fun i hi z hz zm => ?_⟩
    · rw [List.getElem?_eq_getElem h]; simpa using h2
    · have := h3 i hi
      rw [List.getElem?_eq_some_iff] at hz
      obtain ⟨_, hz⟩ := hz
      rw [hz, zm] at this
      simp at this
theorem fitsEnds_iff (m : Mould) : fitsEnds m = true ↔ ∀ x ∈ (List.range (stations m)).map (endsAt m), x ≤ m.ends := by
  unfold fitsEnds
  rw [List.all_eq_true]
  constructor
  · intro h x hx
    obtain ⟨b, hb, rfl⟩ := List.mem_map.mp hx
    simpa using h b hb
  · intro h b hb
    simpa using h _ (List.mem_map.mpr ⟨b, hb, rfl⟩)
/-! ### room -/
theorem room_iff (m : Mould) (a b k : Nat) (h2 : b ≤ stations m) : room m ⟨a, b, k⟩ = true ↔ ∀ x ∈ ((lacks m).drop a).take (b - a), 1 ≤ x := by
  unfold room
  rw [List.all_eq_true]
  constructor
  · intro h x hx
    obtain ⟨i, hi, e⟩ := List.getElem_of_mem hx
    have hi' := hi
    rw [List.length_take, List.length_drop, lacks_len] at hi'
    have := h i (List.mem_range.mpr (by show i < b - a; omega))
    simp at this
    rw [← e]
    simp [lacks]
    exact this
  · intro h i hi
    have hi := List.mem_range.mp hi
    have hi : i < b - a := hi
    have := h (missing m (a + i)) (by
      rw [List.mem_iff_getElem?]
      refine ⟨i, ?_⟩
      rw [List.getElem?_take_of_lt hi, List.getElem?_drop]
      unfold lacks
      rw [List.getElem?_map, List.getElem?_range (by omega)]
      rfl)
    simpa using this
/-! ### the fewest -/
theorem begins_snoc (x : Nat) : ∀ (l : List Nat) (a : Nat), begins a (l ++ [x]) = begins a l + (x - (l.getLast?.getD a))
  | [], a => by simp [begins]
  | b :: l, a => by
    show (b - a) + begins b (l ++ [x]) = (b - a) + begins b l + _
    rw [begins_snoc x l b]
    cases l with
    | nil => simp [Nat.add_assoc]
    | cons c l =>
      rw [List.getLast?_cons_cons]
      have : ∀ (d : Nat), ((c :: l).getLast?).getD d = (c :: l).getLast (by simp) := fun d => by rw [List.getLast?_eq_some_getLast (by simp)]; rfl
      rw [this, this]; omega
/-! ### alike -/
def alikeOf (r : List Nat) : Nat := match r with
  | [] => 0
  | k :: l => longest k 1 l
theorem longest_ge : ∀ (l : List Nat) (k n : Nat), n ≤ longest k n l
  | [], _, _ => Nat.le_refl _
  | x :: l, k, n => by
    unfold longest
    split <;> omega
structure AlInv (r : List Nat) (i L run : Nat) : Prop where
  zero : i = 0 → L = 0 ∧ run = 0
  pos : 0 < i → run ≤ L ∧ alikeOf r = max L (longest (r.getD (i - 1) 0) run (r.drop i))
theorem AlInv.start (r : List Nat) : AlInv r 0 0 0 := ⟨fun _ => ⟨rfl, rfl⟩, fun h => absurd h (Nat.lt_irrefl _)⟩
theorem AlInv.first {r : List Nat} {x L run : Nat} (A : AlInv r 0 L run) (hx : r[0]? = some x) : AlInv r 1 (max L (run + 1)) (run + 1) := by
  obtain ⟨rfl, rfl⟩ := A.zero rfl
  refine ⟨fun h => absurd h (by decide), fun _ => ⟨by omega, ?_⟩⟩
  match r, hx with
  | k :: l, hx =>
    show longest k 1 l = max 1 (longest k 1 l)
    have := longest_ge l k 1
    omega
theorem AlInv.same {r : List Nat} {i x L run : Nat} (A : AlInv r i L run) (h0 : 0 < i) (hx : r[i]? = some x) (hp : r[i - 1]? = some x) : AlInv r (i + 1) (max L (run + 1)) (run + 1) := by
  obtain ⟨h1, h2⟩ := A.pos h0
  refine ⟨fun h => absurd h (Nat.succ_ne_zero _), fun _ => ⟨by omega, ?_⟩⟩
  obtain ⟨hi, hx'⟩ := List.getElem?_eq_some_iff.mp hx
  have e1 : r.getD (i - 1) 0 = x := by rw [List.getD_eq_getElem?_getD, hp]; rfl
  have e2 : r.getD (i + 1 - 1) 0 = x := by rw [Nat.add_sub_cancel, List.getD_eq_getElem?_getD, hx]; rfl
  rw [h2, e1, e2, List.drop_eq_getElem_cons hi, hx', longest, if_pos rfl]
  omega
theorem AlInv.other {r : List Nat} {i x y L run : Nat} (A : AlInv r i L run) (h0 : 0 < i) (hx : r[i]? = some x) (hp : r[i - 1]? = some y) (hne : y ≠ x) : AlInv r (i + 1) (max L (0 + 1)) (0 + 1) := by
  obtain ⟨h1, h2⟩ := A.pos h0
  refine ⟨fun h => absurd h (Nat.succ_ne_zero _), fun _ => ⟨by omega, ?_⟩⟩
  obtain ⟨hi, hx'⟩ := List.getElem?_eq_some_iff.mp hx
  have e1 : r.getD (i - 1) 0 = y := by rw [List.getD_eq_getElem?_getD, hp]; rfl
  have e2 : r.getD (i + 1 - 1) 0 = x := by rw [Nat.add_sub_cancel, List.getD_eq_getElem?_getD, hx]; rfl
  rw [h2, e1, e2, List.drop_eq_getElem_cons hi, hx', longest, if_neg (fun z => hne z.symm)]
  have := longest_ge (List.drop (i + 1) r) x 1
  rw [Nat.zero_add]
  omega
theorem AlInv.done {r : List Nat} {L run : Nat} (A : AlInv r r.length L run) : alikeOf r = L := by
  match r, A with
  | [], A => exact (A.zero rfl).1.symm
  | k :: l, A =>
    obtain ⟨h1, h2⟩ := A.pos (Nat.succ_pos _)
    rw [h2, List.drop_length]
    show max L run = L
    omega
end Bm
end
section
set_option linter.all false
set_option maxRecDepth 10000
set_option maxHeartbeats 2000000
namespace Bm
open Kqv1
def plainL : List Nat := [2, 2, 2, 3, 1, 1, 0, 0, 0, 0, 0, 1, 1, 0, 1, 1, 1, 2, 1, 0, 0]
inductive CallIs : Nat → List Nat → Kqv1.Call → Prop where
  | start (L E c : Nat) (need : List Nat) : need.length ≤ 60 → need.length = c → CallIs 0 (L :: E :: c :: need) (.start L E need)
  | set (i n : Nat) : CallIs 1 [i, n] (.set i n)
  | roll (i n : Nat) : CallIs 2 [i, n] (.roll i n)
  | lay (i n k : Nat) : CallIs 3 [i, n, k] (.lay i n k)
  | lift (i : Nat) : CallIs 4 [i] (.lift i)
  | missing (i : Nat) : CallIs 5 [i] (.missing i)
  | lacks : CallIs 6 [] .lacks
  | fewest : CallIs 7 [] .fewest
  | plan : CallIs 8 [] .plan
  | goes : CallIs 9 [] .goes
  | fabric : CallIs 10 [] .fabric
  | follow (i : Nat) : CallIs 11 [i] (.follow i)
  | ends (i : Nat) : CallIs 12 [i] (.ends i)
  | worst : CallIs 13 [] .worst
  | stack (i : Nat) : CallIs 14 [i] (.stack i)
  | kinds (i : Nat) : CallIs 15 [i] (.kinds i)
  | alike (i : Nat) : CallIs 16 [i] (.alike i)
  | swap (i n : Nat) : CallIs 17 [i, n] (.swap i n)
  | stock (i : Nat) : CallIs 18 [i] (.stock i)
  | metres : CallIs 19 [] .metres
  | state : CallIs 20 [] .state
/-- one call read off: its number, its numbers, the call, what is left -/
structure One (cn : Int) (r : List Int) (c : List (List Int)) (t : List Int) (k : Nat) (args : List Nat) (call : Kqv1.Call) : Prop where
  cn : cn = (k : Int)
  is : CallIs k args call
  of : Kqv1Neutral.callOf (PyKqv1.whole c) = some call
  tak : r.take args.length = args.map Int.ofNat
  rest : t = r.drop args.length
  len : args.length ≤ r.length
  n : ∃ n, plainL[k]? = some n ∧ (k ≠ 0 → args.length = n) ∧ (k = 0 → n = 2 ∧ ∃ c, args[2]? = some c ∧ args.length = 3 + c)
theorem plain_call {p : Int} {n : Nat} {r t : List Int} {c : List (List Int)} (hs : PyKqv1.shape p = some (n, 0)) (h : PyFlat.call PyKqv1.shape (p :: r) = some (c, t)) : n ≤ r.length ∧ c = [p :: r.take n] ∧ t = r.drop n := by
  simp only [PyFlat.call, hs] at h
  by_cases q : r.length < n
  · rw [if_pos q] at h; cases h
  · rw [if_neg q] at h
    simp only [PyFlat.rows, Option.some.injEq, Prod.mk.injEq] at h
    exact ⟨by omega, h.1.symm, h.2.symm⟩
theorem of_toNat {x : Int} (h : 0 ≤ x) : x = Int.ofNat x.toNat := (Int.toNat_of_nonneg h).symm
theorem within_nonneg {lo hi z : Int} (h : PyInside.within lo hi z = true) : lo ≤ z := by
  unfold PyInside.within at h
  simp at h
  exact h.1
theorem each_cons {lo hi x : Int} {b : List (Int × Int)} {xs : List Int} (h : PyInside.each ((lo, hi) :: b) (x :: xs) = true) : lo ≤ x ∧ PyInside.each b xs = true := by
  unfold PyInside.each at h
  rw [Bool.and_eq_true] at h
  exact ⟨within_nonneg h.1, h.2⟩
theorem map_toNat {l : List Int} (h : ∀ x ∈ l, 0 ≤ x) : l = (l.map Int.toNat).map Int.ofNat := by
  rw [List.map_map]
  refine (List.map_id l).symm.trans (List.map_congr_left fun x hx => ?_)
  exact of_toNat (h x hx)
theorem one_1 {r t : List Int} {c : List (List Int)} (h : PyFlat.call PyKqv1.shape (1 :: r) = some (c, t)) (hb : PyInside.call PyKqv1.bound c = true) : ∃ args call, One 1 r c t 1 args call := by
  obtain ⟨h1, h2, h3⟩ := plain_call (n := 2) rfl h
  subst h2 h3
  match r, h1, hb with
  | x0 :: x1 :: r, h1, hb =>
    have hb : (PyInside.each [(0, 4294967295), (0, 4294967295)] [x0, x1] && PyInside.lists [] []) = true := hb
    rw [Bool.and_eq_true] at hb
    have b0 := hb.1
    obtain ⟨n0, b1⟩ := each_cons b0
    obtain ⟨n1, b2⟩ := each_cons b1
    refine ⟨[x0.toNat, x1.toNat], .set x0.toNat x1.toNat, rfl, .set _ _, rfl, ?_, rfl, h1, 2, rfl, fun _ => rfl, fun z => absurd z (by decide)⟩
    show [x0, x1] = [Int.ofNat x0.toNat, Int.ofNat x1.toNat]
    rw [← of_toNat n0, ← of_toNat n1]
theorem one_2 {r t : List Int} {c : List (List Int)} (h : PyFlat.call PyKqv1.shape (2 :: r) = some (c, t)) (hb : PyInside.call PyKqv1.bound c = true) : ∃ args call, One 2 r c t 2 args call := by
  obtain ⟨h1, h2, h3⟩ := plain_call (n := 2) rfl h
  subst h2 h3
  match r, h1, hb with
  | x0 :: x1 :: r, h1, hb =>
    have hb : (PyInside.each [(0, 4294967295), (0, 4294967295)] [x0, x1] && PyInside.lists [] []) = true := hb
    rw [Bool.and_eq_true] at hb
    have b0 := hb.1
    obtain ⟨n0, b1⟩ := each_cons b0
    obtain ⟨n1, b2⟩ := each_cons b1
    refine ⟨[x0.toNat, x1.toNat], .roll x0.toNat x1.toNat, rfl, .roll _ _, rfl, ?_, rfl, h1, 2, rfl, fun _ => rfl, fun z => absurd z (by decide)⟩
    show [x0, x1] = [Int.ofNat x0.toNat, Int.ofNat x1.toNat]
    rw [← of_toNat n0, ← of_toNat n1]
theorem one_3 {r t : List Int} {c : List (List Int)} (h : PyFlat.call PyKqv1.shape (3 :: r) = some (c, t)) (hb : PyInside.call PyKqv1.bound c = true) : ∃ args call, One 3 r c t 3 args call := by
  obtain ⟨h1, h2, h3⟩ := plain_call (n := 3) rfl h
  subst h2 h3
  match r, h1, hb with
  | x0 :: x1 :: x2 :: r, h1, hb =>
    have hb : (PyInside.each [(0, 4294967295), (0, 4294967295), (0, 4294967295)] [x0, x1, x2] && PyInside.lists [] []) = true := hb
    rw [Bool.and_eq_true] at hb
    have b0 := hb.1
    obtain ⟨n0, b1⟩ := each_cons b0
    obtain ⟨n1, b2⟩ := each_cons b1
    obtain ⟨n2, b3⟩ := each_cons b2
    refine ⟨[x0.toNat, x1.toNat, x2.toNat], .lay x0.toNat x1.toNat x2.toNat, rfl, .lay _ _ _, rfl, ?_, rfl, h1, 3, rfl, fun _ => rfl, fun z => absurd z (by decide)⟩
    show [x0, x1, x2] = [Int.ofNat x0.toNat, Int.ofNat x1.toNat, Int.ofNat x2.toNat]
    rw [← of_toNat n0, ← of_toNat n1, ← of_toNat n2]
theorem one_4 {r t : List Int} {c : List (List Int)} (h : PyFlat.call PyKqv1.shape (4 :: r) = some (c, t)) (hb : PyInside.call PyKqv1.bound c = true) : ∃ args call, One 4 r c t 4 args call := by
  obtain ⟨h1, h2, h3⟩ := plain_call (n := 1) rfl h
  subst h2 h3
  match r, h1, hb with
  | x0 :: r, h1, hb =>
    have hb : (PyInside.each [(0, 4294967295)] [x0] && PyInside.lists [] []) = true := hb
    rw [Bool.and_eq_true] at hb
    have b0 := hb.1
    obtain ⟨n0, b1⟩ := each_cons b0
    refine ⟨[x0.toNat], .lift x0.toNat, rfl, .lift _, rfl, ?_, rfl, h1, 1, rfl, fun _ => rfl, fun z => absurd z (by decide)⟩
    show [x0] = [Int.ofNat x0.toNat]
    rw [← of_toNat n0]
theorem one_5 {r t : List Int} {c : List (List Int)} (h : PyFlat.call PyKqv1.shape (5 :: r) = some (c, t)) (hb : PyInside.call PyKqv1.bound c = true) : ∃ args call, One 5 r c t 5 args call := by
  obtain ⟨h1, h2, h3⟩ := plain_call (n := 1) rfl h
  subst h2 h3
  match r, h1, hb with
  | x0 :: r, h1, hb =>
    have hb : (PyInside.each [(0, 4294967295)] [x0] && PyInside.lists [] []) = true := hb
    rw [Bool.and_eq_true] at hb
    have b0 := hb.1
    obtain ⟨n0, b1⟩ := each_cons b0
    refine ⟨[x0.toNat], .missing x0.toNat, rfl, .missing _, rfl, ?_, rfl, h1, 1, rfl, fun _ => rfl, fun z => absurd z (by decide)⟩
    show [x0] = [Int.ofNat x0.toNat]
    rw [← of_toNat n0]
theorem one_6 {r t : List Int} {c : List (List Int)} (h : PyFlat.call PyKqv1.shape (6 :: r) = some (c, t)) (hb : PyInside.call PyKqv1.bound c = true) : ∃ args call, One 6 r c t 6 args call := by
  obtain ⟨h1, h2, h3⟩ := plain_call (n := 0) rfl h
  subst h2 h3
  exact ⟨[], _, rfl, .lacks, rfl, rfl, rfl, Nat.zero_le _, 0, rfl, fun _ => rfl, fun z => absurd z (by decide)⟩
theorem one_7 {r t : List Int} {c : List (List Int)} (h : PyFlat.call PyKqv1.shape (7 :: r) = some (c, t)) (hb : PyInside.call PyKqv1.bound c = true) : ∃ args call, One 7 r c t 7 args call := by
  obtain ⟨h1, h2, h3⟩ := plain_call (n := 0) rfl h
  subst h2 h3
  exact ⟨[], _, rfl, .fewest, rfl, rfl, rfl, Nat.zero_le _, 0, rfl, fun _ => rfl, fun z => absurd z (by decide)⟩
theorem one_8 {r t : List Int} {c : List (List Int)} (h : PyFlat.call PyKqv1.shape (8 :: r) = some (c, t)) (hb : PyInside.call PyKqv1.bound c = true) : ∃ args call, One 8 r c t 8 args call := by
  obtain ⟨h1, h2, h3⟩ := plain_call (n := 0) rfl h
  subst h2 h3
  exact ⟨[], _, rfl, .plan, rfl, rfl, rfl, Nat.zero_le _, 0, rfl, fun _ => rfl, fun z => absurd z (by decide)⟩
theorem one_9 {r t : List Int} {c : List (List Int)} (h : PyFlat.call PyKqv1.shape (9 :: r) = some (c, t)) (hb : PyInside.call PyKqv1.bound c = true) : ∃ args call, One 9 r c t 9 args call := by
  obtain ⟨h1, h2, h3⟩ := plain_call (n := 0) rfl h
  subst h2 h3
  exact ⟨[], _, rfl, .goes, rfl, rfl, rfl, Nat.zero_le _, 0, rfl, fun _ => rfl, fun z => absurd z (by decide)⟩
theorem one_10 {r t : List Int} {c : List (List Int)} (h : PyFlat.call PyKqv1.shape (10 :: r) = some (c, t)) (hb : PyInside.call PyKqv1.bound c = true) : ∃ args call, One 10 r c t 10 args call := by
  obtain ⟨h1, h2, h3⟩ := plain_call (n := 0) rfl h
  subst h2 h3
  exact ⟨[], _, rfl, .fabric, rfl, rfl, rfl, Nat.zero_le _, 0, rfl, fun _ => rfl, fun z => absurd z (by decide)⟩
theorem one_11 {r t : List Int} {c : List (List Int)} (h : PyFlat.call PyKqv1.shape (11 :: r) = some (c, t)) (hb : PyInside.call PyKqv1.bound c = true) : ∃ args call, One 11 r c t 11 args call := by
  obtain ⟨h1, h2, h3⟩ := plain_call (n := 1) rfl h
  subst h2 h3
  match r, h1, hb with
  | x0 :: r, h1, hb =>
    have hb : (PyInside.each [(0, 4294967295)] [x0] && PyInside.lists [] []) = true := hb
    rw [Bool.and_eq_true] at hb
    have b0 := hb.1
    obtain ⟨n0, b1⟩ := each_cons b0
    refine ⟨[x0.toNat], .follow x0.toNat, rfl, .follow _, rfl, ?_, rfl, h1, 1, rfl, fun _ => rfl, fun z => absurd z (by decide)⟩
    show [x0] = [Int.ofNat x0.toNat]
    rw [← of_toNat n0]
theorem one_12 {r t : List Int} {c : List (List Int)} (h : PyFlat.call PyKqv1.shape (12 :: r) = some (c, t)) (hb : PyInside.call PyKqv1.bound c = true) : ∃ args call, One 12 r c t 12 args call := by
  obtain ⟨h1, h2, h3⟩ := plain_call (n := 1) rfl h
  subst h2 h3
  match r, h1, hb with
  | x0 :: r, h1, hb =>
    have hb : (PyInside.each [(0, 4294967295)] [x0] && PyInside.lists [] []) = true := hb
    rw [Bool.and_eq_true] at hb
    have b0 := hb.1
    obtain ⟨n0, b1⟩ := each_cons b0
    refine ⟨[x0.toNat], .ends x0.toNat, rfl, .ends _, rfl, ?_, rfl, h1, 1, rfl, fun _ => rfl, fun z => absurd z (by decide)⟩
    show [x0] = [Int.ofNat x0.toNat]
    rw [← of_toNat n0]
theorem one_13 {r t : List Int} {c : List (List Int)} (h : PyFlat.call PyKqv1.shape (13 :: r) = some (c, t)) (hb : PyInside.call PyKqv1.bound c = true) : ∃ args call, One 13 r c t 13 args call := by
  obtain ⟨h1, h2, h3⟩ := plain_call (n := 0) rfl h
  subst h2 h3
  exact ⟨[], _, rfl, .worst, rfl, rfl, rfl, Nat.zero_le _, 0, rfl, fun _ => rfl, fun z => absurd z (by decide)⟩
theorem one_14 {r t : List Int} {c : List (List Int)} (h : PyFlat.call PyKqv1.shape (14 :: r) = some (c, t)) (hb : PyInside.call PyKqv1.bound c = true) : ∃ args call, One 14 r c t 14 args call := by
  obtain ⟨h1, h2, h3⟩ := plain_call (n := 1) rfl h
  subst h2 h3
  match r, h1, hb with
  | x0 :: r, h1, hb =>
    have hb : (PyInside.each [(0, 4294967295)] [x0] && PyInside.lists [] []) = true := hb
    rw [Bool.and_eq_true] at hb
    have b0 := hb.1
    obtain ⟨n0, b1⟩ := each_cons b0
    refine ⟨[x0.toNat], .stack x0.toNat, rfl, .stack _, rfl, ?_, rfl, h1, 1, rfl, fun _ => rfl, fun z => absurd z (by decide)⟩
    show [x0] = [Int.ofNat x0.toNat]
    rw [← of_toNat n0]
theorem one_15 {r t : List Int} {c : List (List Int)} (h : PyFlat.call PyKqv1.shape (15 :: r) = some (c, t)) (hb : PyInside.call PyKqv1.bound c = true) : ∃ args call, One 15 r c t 15 args call := by
  obtain ⟨h1, h2, h3⟩ := plain_call (n := 1) rfl h
  subst h2 h3
  match r, h1, hb with
  | x0 :: r, h1, hb =>
    have hb : (PyInside.each [(0, 4294967295)] [x0] && PyInside.lists [] []) = true := hb
    rw [Bool.and_eq_true] at hb
    have b0 := hb.1
    obtain ⟨n0, b1⟩ := each_cons b0
    refine ⟨[x0.toNat], .kinds x0.toNat, rfl, .kinds _, rfl, ?_, rfl, h1, 1, rfl, fun _ => rfl, fun z => absurd z (by decide)⟩
    show [x0] = [Int.ofNat x0.toNat]
    rw [← of_toNat n0]
theorem one_16 {r t : List Int} {c : List (List Int)} (h : PyFlat.call PyKqv1.shape (16 :: r) = some (c, t)) (hb : PyInside.call PyKqv1.bound c = true) : ∃ args call, One 16 r c t 16 args call := by
  obtain ⟨h1, h2, h3⟩ := plain_call (n := 1) rfl h
  subst h2 h3
  match r, h1, hb with
  | x0 :: r, h1, hb =>
    have hb : (PyInside.each [(0, 4294967295)] [x0] && PyInside.lists [] []) = true := hb
    rw [Bool.and_eq_true] at hb
    have b0 := hb.1
    obtain ⟨n0, b1⟩ := each_cons b0
    refine ⟨[x0.toNat], .alike x0.toNat, rfl, .alike _, rfl, ?_, rfl, h1, 1, rfl, fun _ => rfl, fun z => absurd z (by decide)⟩
    show [x0] = [Int.ofNat x0.toNat]
    rw [← of_toNat n0]
theorem one_17 {r t : List Int} {c : List (List Int)} (h : PyFlat.call PyKqv1.shape (17 :: r) = some (c, t)) (hb : PyInside.call PyKqv1.bound c = true) : ∃ args call, One 17 r c t 17 args call := by
  obtain ⟨h1, h2, h3⟩ := plain_call (n := 2) rfl h
  subst h2 h3
  match r, h1, hb with
  | x0 :: x1 :: r, h1, hb =>
    have hb : (PyInside.each [(0, 4294967295), (0, 4294967295)] [x0, x1] && PyInside.lists [] []) = true := hb
    rw [Bool.and_eq_true] at hb
    have b0 := hb.1
    obtain ⟨n0, b1⟩ := each_cons b0
    obtain ⟨n1, b2⟩ := each_cons b1
    refine ⟨[x0.toNat, x1.toNat], .swap x0.toNat x1.toNat, rfl, .swap _ _, rfl, ?_, rfl, h1, 2, rfl, fun _ => rfl, fun z => absurd z (by decide)⟩
    show [x0, x1] = [Int.ofNat x0.toNat, Int.ofNat x1.toNat]
    rw [← of_toNat n0, ← of_toNat n1]
theorem one_18 {r t : List Int} {c : List (List Int)} (h : PyFlat.call PyKqv1.shape (18 :: r) = some (c, t)) (hb : PyInside.call PyKqv1.bound c = true) : ∃ args call, One 18 r c t 18 args call := by
  obtain ⟨h1, h2, h3⟩ := plain_call (n := 1) rfl h
  subst h2 h3
  match r, h1, hb with
  | x0 :: r, h1, hb =>
    have hb : (PyInside.each [(0, 4294967295)] [x0] && PyInside.lists [] []) = true := hb
    rw [Bool.and_eq_true] at hb
    have b0 := hb.1
    obtain ⟨n0, b1⟩ := each_cons b0
    refine ⟨[x0.toNat], .stock x0.toNat, rfl, .stock _, rfl, ?_, rfl, h1, 1, rfl, fun _ => rfl, fun z => absurd z (by decide)⟩
    show [x0] = [Int.ofNat x0.toNat]
    rw [← of_toNat n0]
theorem one_19 {r t : List Int} {c : List (List Int)} (h : PyFlat.call PyKqv1.shape (19 :: r) = some (c, t)) (hb : PyInside.call PyKqv1.bound c = true) : ∃ args call, One 19 r c t 19 args call := by
  obtain ⟨h1, h2, h3⟩ := plain_call (n := 0) rfl h
  subst h2 h3
  exact ⟨[], _, rfl, .metres, rfl, rfl, rfl, Nat.zero_le _, 0, rfl, fun _ => rfl, fun z => absurd z (by decide)⟩
theorem one_20 {r t : List Int} {c : List (List Int)} (h : PyFlat.call PyKqv1.shape (20 :: r) = some (c, t)) (hb : PyInside.call PyKqv1.bound c = true) : ∃ args call, One 20 r c t 20 args call := by
  obtain ⟨h1, h2, h3⟩ := plain_call (n := 0) rfl h
  subst h2 h3
  exact ⟨[], _, rfl, .state, rfl, rfl, rfl, Nat.zero_le _, 0, rfl, fun _ => rfl, fun z => absurd z (by decide)⟩
theorem one_0 {r t : List Int} {c : List (List Int)} (h : PyFlat.call PyKqv1.shape (0 :: r) = some (c, t)) (hb : PyInside.call PyKqv1.bound c = true) : ∃ args call, One 0 r c t 0 args call := by
  simp only [PyFlat.call, show PyKqv1.shape 0 = some (2, 1) from rfl] at h
  match r, h with
  | [], h => simp at h
  | [x0], h => simp at h
  | x0 :: x1 :: [], h => simp [PyFlat.rows, PyFlat.row] at h
  | x0 :: x1 :: m :: r, h =>
    rw [if_neg (by simp)] at h
    simp only [List.drop_succ_cons, List.drop_zero, PyFlat.rows, PyFlat.row] at h
    by_cases q : 0 ≤ m ∧ m.toNat ≤ r.length
    · rw [if_pos q] at h
      simp only [Option.some.injEq, Prod.mk.injEq] at h
      obtain ⟨h2, h3⟩ := h
      subst h2 h3
      have hb : (PyInside.each [(0, 4294967295), (0, 4294967295)] [x0, x1] && (decide (0 ≤ (r.take m.toNat).length) && decide ((r.take m.toNat).length ≤ 60) && (r.take m.toNat).all (PyInside.within 0 4294967295) && PyInside.lists [] [])) = true := hb
      simp only [Bool.and_eq_true, decide_eq_true_eq] at hb
      obtain ⟨b0, ⟨⟨_, b60⟩, ball⟩, _⟩ := hb
      obtain ⟨n0, b1⟩ := each_cons b0
      obtain ⟨n1, _⟩ := each_cons b1
      have hpos : ∀ x ∈ r.take m.toNat, 0 ≤ x := fun x hx => within_nonneg (List.all_eq_true.mp ball x hx)
      have hl : (r.take m.toNat).length = m.toNat := by rw [List.length_take]; omega
      refine ⟨x0.toNat :: x1.toNat :: m.toNat :: (r.take m.toNat).map Int.toNat, .start x0.toNat x1.toNat ((r.take m.toNat).map Int.toNat), rfl, .start _ _ _ _ (by rw [List.length_map]; exact b60) (by rw [List.length_map]; exact hl), rfl, ?_, ?_, ?_, 2, rfl, fun z => absurd rfl z, fun _ => ⟨rfl, m.toNat, rfl, ?_⟩⟩
      · simp only [List.length_cons, List.length_map, hl, List.take_succ_cons, List.map_cons]
        rw [← of_toNat n0, ← of_toNat n1, ← of_toNat q.1, ← map_toNat hpos]
      · simp only [List.length_cons, List.length_map, hl, List.drop_succ_cons]
      · simp only [List.length_cons, List.length_map, hl]
        omega
      · simp only [List.length_cons, List.length_map, hl]
        omega
    · rw [if_neg q] at h
      simp at h
theorem parse_one {cn : Int} {r t : List Int} {c : List (List Int)} (h : PyFlat.call PyKqv1.shape (cn :: r) = some (c, t)) (hb : PyInside.call PyKqv1.bound c = true) : ∃ k args call, One cn r c t k args call := by
  have hs : PyKqv1.shape cn ≠ none := fun z => by
    simp only [PyFlat.call, z] at h
    cases h
  by_cases h0 : cn = 0
  · subst h0
    obtain ⟨args, call, o⟩ := one_0 h hb
    exact ⟨0, args, call, o⟩
  by_cases h1 : cn = 1
  · subst h1
    obtain ⟨args, call, o⟩ := one_1 h hb
    exact ⟨1, args, call, o⟩
  by_cases h2 : cn = 2
  · subst h2
    obtain ⟨args, call, o⟩ := one_2 h hb
    exact ⟨2, args, call, o⟩
  by_cases h3 : cn = 3
  · subst h3
    obtain ⟨args, call, o⟩ := one_3 h hb
    exact ⟨3, args, call, o⟩
  by_cases h4 : cn = 4
  · subst h4
    obtain ⟨args, call, o⟩ := one_4 h hb
    exact ⟨4, args, call, o⟩
  by_cases h5 : cn = 5
  · subst h5
    obtain ⟨args, call, o⟩ := one_5 h hb
    exact ⟨5, args, call, o⟩
  by_cases h6 : cn = 6
  · subst h6
    obtain ⟨args, call, o⟩ := one_6 h hb
    exact ⟨6, args, call, o⟩
  by_cases h7 : cn = 7
  · subst h7
    obtain ⟨args, call, o⟩ := one_7 h hb
    exact ⟨7, args, call, o⟩
  by_cases h8 : cn = 8
  · subst h8
    obtain ⟨args, call, o⟩ := one_8 h hb
    exact ⟨8, args, call, o⟩
  by_cases h9 : cn = 9
  · subst h9
    obtain ⟨args, call, o⟩ := one_9 h hb
    exact ⟨9, args, call, o⟩
  by_cases h10 : cn = 10
  · subst h10
    obtain ⟨args, call, o⟩ := one_10 h hb
    exact ⟨10, args, call, o⟩
  by_cases h11 : cn = 11
  · subst h11
    obtain ⟨args, call, o⟩ := one_11 h hb
    exact ⟨11, args, call, o⟩
  by_cases h12 : cn = 12
  · subst h12
    obtain ⟨args, call, o⟩ := one_12 h hb
    exact ⟨12, args, call, o⟩
  by_cases h13 : cn = 13
  · subst h13
    obtain ⟨args, call, o⟩ := one_13 h hb
    exact ⟨13, args, call, o⟩
  by_cases h14 : cn = 14
  · subst h14
    obtain ⟨args, call, o⟩ := one_14 h hb
    exact ⟨14, args, call, o⟩
  by_cases h15 : cn = 15
  · subst h15
    obtain ⟨args, call, o⟩ := one_15 h hb
    exact ⟨15, args, call, o⟩
  by_cases h16 : cn = 16
  · subst h16
    obtain ⟨args, call, o⟩ := one_16 h hb
    exact ⟨16, args, call, o⟩
  by_cases h17 : cn = 17
  · subst h17
    obtain ⟨args, call, o⟩ := one_17 h hb
    exact ⟨17, args, call, o⟩
  by_cases h18 : cn = 18
  · subst h18
    obtain ⟨args, call, o⟩ := one_18 h hb
    exact ⟨18, args, call, o⟩
  by_cases h19 : cn = 19
  · subst h19
    obtain ⟨args, call, o⟩ := one_19 h hb
    exact ⟨19, args, call, o⟩
  by_cases h20 : cn = 20
  · subst h20
    obtain ⟨args, call, o⟩ := one_20 h hb
    exact ⟨20, args, call, o⟩
  exfalso
  apply hs
  unfold PyKqv1.shape
  rw [if_neg h0, if_neg h1, if_neg h2, if_neg h3, if_neg h4, if_neg h5, if_neg h6, if_neg h7, if_neg h8, if_neg h9, if_neg h10, if_neg h11, if_neg h12, if_neg h13, if_neg h14, if_neg h15, if_neg h16, if_neg h17, if_neg h18, if_neg h19, if_neg h20]
end Bm
end
section
set_option Elab.async false
set_option linter.all false
set_option maxRecDepth 100000
set_option maxHeartbeats 2000000
namespace Bm
open PySem PySem.Spec PyProof.Rows L2
structure Adr where
  cM : Addr
  cP : Addr
  pn : Addr
  dC : Addr
  f_count_ends : Addr
  d_count_ends : FuncData
  f_runs_lacking : Addr
  d_runs_lacking : FuncData
  f_plan_spans : Addr
  d_plan_spans : FuncData
  f_fewest_spans : Addr
  d_fewest_spans : FuncData
  f_longest_run : Addr
  d_longest_run : FuncData
  f_init_Ply : Addr
  d_init_Ply : FuncData
  f_init_Mould : Addr
  d_init_Mould : FuncData
  f_begin : Addr
  d_begin : FuncData
  f_station_count : Addr
  d_station_count : FuncData
  f_is_begun : Addr
  d_is_begun : FuncData
  f_has_station : Addr
  d_has_station : FuncData
  f_stack_at : Addr
  d_stack_at : FuncData
  f_kinds_at : Addr
  d_kinds_at : FuncData
  f_alike_at : Addr
  d_alike_at : FuncData
  f_layers_at : Addr
  d_layers_at : FuncData
  f_missing_at : Addr
  d_missing_at : FuncData
  f_lacking : Addr
  d_lacking : FuncData
  f_planned : Addr
  d_planned : FuncData
  f_planned_fabric : Addr
  d_planned_fabric : FuncData
  f_ends_with : Addr
  d_ends_with : FuncData
  f_has_ends_for : Addr
  d_has_ends_for : FuncData
  f_fabric_of : Addr
  d_fabric_of : FuncData
  f_fabric_in_plies : Addr
  d_fabric_in_plies : FuncData
  f_least_free_number : Addr
  d_least_free_number : FuncData
  f_lay_ply : Addr
  d_lay_ply : FuncData
  f_lift_ply : Addr
  d_lift_ply : FuncData
  f_swap_plies : Addr
  d_swap_plies : FuncData
  f_start : Addr
  d_start : FuncData
  f_set_need : Addr
  d_set_need : FuncData
  f_roll : Addr
  d_roll : FuncData
  f_lay : Addr
  d_lay : FuncData
  f_lift : Addr
  d_lift : FuncData
  f_missing : Addr
  d_missing : FuncData
  f_lacks : Addr
  d_lacks : FuncData
  f_fewest : Addr
  d_fewest : FuncData
  f_plan : Addr
  d_plan : FuncData
  f_goes : Addr
  d_goes : FuncData
  f_fabric : Addr
  d_fabric : FuncData
  f_follow : Addr
  d_follow : FuncData
  f_ends : Addr
  d_ends : FuncData
  f_worst : Addr
  d_worst : FuncData
  f_stack : Addr
  d_stack : FuncData
  f_kinds : Addr
  d_kinds : FuncData
  f_alike : Addr
  d_alike : FuncData
  f_swap : Addr
  d_swap : FuncData
  f_stock : Addr
  d_stock : FuncData
  f_metres : Addr
  d_metres : FuncData
  f_state : Addr
  d_state : FuncData
  f_answer_call : Addr
  d_answer_call : FuncData
  f_end_of_call : Addr
  d_end_of_call : FuncData
  f_answers : Addr
  d_answers : FuncData
def callsOf (t : Adr) : List (Int × Addr) := [(0, t.f_start), (1, t.f_set_need), (2, t.f_roll), (3, t.f_lay), (4, t.f_lift), (5, t.f_missing), (6, t.f_lacks), (7, t.f_fewest), (8, t.f_plan), (9, t.f_goes), (10, t.f_fabric), (11, t.f_follow), (12, t.f_ends), (13, t.f_worst), (14, t.f_stack), (15, t.f_kinds), (16, t.f_alike), (17, t.f_swap), (18, t.f_stock), (19, t.f_metres), (20, t.f_state)]
structure Txt (K : PySem.W.Frag) (mg : Str → Option Value) (t : Adr) : Prop where
  clM : Cls K t.cM
  clP : Cls K t.cP
  n_long : NoAttr K t.cM "long"
  n_most_ends : NoAttr K t.cM "most_ends"
  n_need : NoAttr K t.cM "need"
  n_plies : NoAttr K t.cM "plies"
  n_stock : NoAttr K t.cM "stock"
  n_scrap : NoAttr K t.cM "scrap"
  n_first : NoAttr K t.cP "first"
  n_behind : NoAttr K t.cP "behind"
  n_kind : NoAttr K t.cP "kind"
  g_Mould : mg "Mould" = some (.ref t.cM)
  g_Ply : mg "Ply" = some (.ref t.cP)
  mkMould : Mk K t.cM t.f_init_Mould
  mkPly : Mk K t.cP t.f_init_Ply
  g_PLAIN : mg "PLAIN_NUMBERS" = some (.ref t.pn)
  plain : ∀ H : Hp, SqT K H t.pn (([2, 2, 2, 3, 1, 1, 0, 0, 0, 0, 0, 1, 1, 0, 1, 1, 1, 2, 1, 0, 0] : List Int).map V.int)
  g_CALLS : mg "CALLS" = some (.ref t.dC)
  calls : IntDict K t.dC (callsOf t)
  n_len : mg "len" = none
  n_max : mg "max" = none
  n_min : mg "min" = none
  n_sum : mg "sum" = none
  n_sorted : mg "sorted" = none
  n_list : mg "list" = none
  n_range : mg "range" = none
  n_enumerate : mg "enumerate" = none
  c_KINDS : GInt mg "KINDS" (4)
  c_NO_SUCH_PLY : GInt mg "NO_SUCH_PLY" (-2)
  c_NOT_STARTED : GInt mg "NOT_STARTED" (-11)
  c_TOO_LITTLE_FABRIC : GInt mg "TOO_LITTLE_FABRIC" (-12)
  c_TOO_MANY_ENDS : GInt mg "TOO_MANY_ENDS" (-13)
  c_TOO_MANY_LAYERS : GInt mg "TOO_MANY_LAYERS" (-16)
  c_WRONG_NUMBER : GInt mg "WRONG_NUMBER" (-22)
  c_TOO_MANY_PLIES : GInt mg "TOO_MANY_PLIES" (-28)
  c_NOTHING_MISSING : GInt mg "NOTHING_MISSING" (-62)
  c_START : GInt mg "START" (0)
  c_LONGEST : GInt mg "LONGEST" (100)
  c_MOST_ENDS : GInt mg "MOST_ENDS" (20)
  c_MOST_STATIONS : GInt mg "MOST_STATIONS" (12)
  c_MOST_NEEDED : GInt mg "MOST_NEEDED" (12)
  c_MOST_STOCK : GInt mg "MOST_STOCK" (100000)
  c_MOST_PLIES : GInt mg "MOST_PLIES" (40)
  F_count_ends : Fun K "count_ends" "count_ends" s_count_ends t.f_count_ends t.d_count_ends
  b_count_ends : Binds K t.d_count_ends ["spans", "stations"] []
  g_count_ends : mg "count_ends" = some (.ref t.f_count_ends)
  F_runs_lacking : Fun K "runs_lacking" "runs_lacking" s_runs_lacking t.f_runs_lacking t.d_runs_lacking
  b_runs_lacking : Binds K t.d_runs_lacking ["lacking", "height"] []
  g_runs_lacking : mg "runs_lacking" = some (.ref t.f_runs_lacking)
  F_plan_spans : Fun K "plan_spans" "plan_spans" s_plan_spans t.f_plan_spans t.d_plan_spans
  b_plan_spans : Binds K t.d_plan_spans ["lacking"] []
  g_plan_spans : mg "plan_spans" = some (.ref t.f_plan_spans)
  F_fewest_spans : Fun K "fewest_spans" "fewest_spans" s_fewest_spans t.f_fewest_spans t.d_fewest_spans
  b_fewest_spans : Binds K t.d_fewest_spans ["lacking"] []
  g_fewest_spans : mg "fewest_spans" = some (.ref t.f_fewest_spans)
  F_longest_run : Fun K "longest_run" "longest_run" s_longest_run t.f_longest_run t.d_longest_run
  b_longest_run : Binds K t.d_longest_run ["row"] []
  g_longest_run : mg "longest_run" = some (.ref t.f_longest_run)
  F_init_Ply : Fun K "__init__" "Ply.__init__" s_init_Ply t.f_init_Ply t.d_init_Ply
  b_init_Ply : Binds K t.d_init_Ply ["self", "first", "behind", "kind"] []
  F_init_Mould : Fun K "__init__" "Mould.__init__" s_init_Mould t.f_init_Mould t.d_init_Mould
  b_init_Mould : Binds K t.d_init_Mould ["self"] []
  F_begin : Fun K "begin" "Mould.begin" s_begin t.f_begin t.d_begin
  b_begin : Binds K t.d_begin ["self", "long", "most_ends", "need"] []
  m_begin : Meth K t.cM "begin" t.f_begin
  F_station_count : Fun K "station_count" "Mould.station_count" s_station_count t.f_station_count t.d_station_count
  b_station_count : Binds K t.d_station_count ["self"] []
  m_station_count : Meth K t.cM "station_count" t.f_station_count
  F_is_begun : Fun K "is_begun" "Mould.is_begun" s_is_begun t.f_is_begun t.d_is_begun
  b_is_begun : Binds K t.d_is_begun ["self"] []
  m_is_begun : Meth K t.cM "is_begun" t.f_is_begun
  F_has_station : Fun K "has_station" "Mould.has_station" s_has_station t.f_has_station t.d_has_station
  b_has_station : Binds K t.d_has_station ["self", "station"] []
  m_has_station : Meth K t.cM "has_station" t.f_has_station
  F_stack_at : Fun K "stack_at" "Mould.stack_at" s_stack_at t.f_stack_at t.d_stack_at
  b_stack_at : Binds K t.d_stack_at ["self", "station"] []
  m_stack_at : Meth K t.cM "stack_at" t.f_stack_at
  F_kinds_at : Fun K "kinds_at" "Mould.kinds_at" s_kinds_at t.f_kinds_at t.d_kinds_at
  b_kinds_at : Binds K t.d_kinds_at ["self", "station"] []
  m_kinds_at : Meth K t.cM "kinds_at" t.f_kinds_at
  F_alike_at : Fun K "alike_at" "Mould.alike_at" s_alike_at t.f_alike_at t.d_alike_at
  b_alike_at : Binds K t.d_alike_at ["self", "station"] []
  m_alike_at : Meth K t.cM "alike_at" t.f_alike_at
  F_layers_at : Fun K "layers_at" "Mould.layers_at" s_layers_at t.f_layers_at t.d_layers_at
  b_layers_at : Binds K t.d_layers_at ["self", "station"] []
  m_layers_at : Meth K t.cM "layers_at" t.f_layers_at
  F_missing_at : Fun K "missing_at" "Mould.missing_at" s_missing_at t.f_missing_at t.d_missing_at
  b_missing_at : Binds K t.d_missing_at ["self", "station"] []
  m_missing_at : Meth K t.cM "missing_at" t.f_missing_at
  F_lacking : Fun K "lacking" "Mould.lacking" s_lacking t.f_lacking t.d_lacking
  b_lacking : Binds K t.d_lacking ["self"] []
  m_lacking : Meth K t.cM "lacking" t.f_lacking
  F_planned : Fun K "planned" "Mould.planned" s_planned t.f_planned t.d_planned
  b_planned : Binds K t.d_planned ["self"] []
  m_planned : Meth K t.cM "planned" t.f_planned
  F_planned_fabric : Fun K "planned_fabric" "Mould.planned_fabric" s_planned_fabric t.f_planned_fabric t.d_planned_fabric
  b_planned_fabric : Binds K t.d_planned_fabric ["self"] []
  m_planned_fabric : Meth K t.cM "planned_fabric" t.f_planned_fabric
  F_ends_with : Fun K "ends_with" "Mould.ends_with" s_ends_with t.f_ends_with t.d_ends_with
  b_ends_with : Binds K t.d_ends_with ["self", "more_spans"] []
  m_ends_with : Meth K t.cM "ends_with" t.f_ends_with
  F_has_ends_for : Fun K "has_ends_for" "Mould.has_ends_for" s_has_ends_for t.f_has_ends_for t.d_has_ends_for
  b_has_ends_for : Binds K t.d_has_ends_for ["self", "more_spans"] []
  m_has_ends_for : Meth K t.cM "has_ends_for" t.f_has_ends_for
  F_fabric_of : Fun K "fabric_of" "Mould.fabric_of" s_fabric_of t.f_fabric_of t.d_fabric_of
  b_fabric_of : Binds K t.d_fabric_of ["self", "ply"] []
  m_fabric_of : Meth K t.cM "fabric_of" t.f_fabric_of
  F_fabric_in_plies : Fun K "fabric_in_plies" "Mould.fabric_in_plies" s_fabric_in_plies t.f_fabric_in_plies t.d_fabric_in_plies
  b_fabric_in_plies : Binds K t.d_fabric_in_plies ["self"] []
  m_fabric_in_plies : Meth K t.cM "fabric_in_plies" t.f_fabric_in_plies
  F_least_free_number : Fun K "least_free_number" "Mould.least_free_number" s_least_free_number t.f_least_free_number t.d_least_free_number
  b_least_free_number : Binds K t.d_least_free_number ["self"] []
  m_least_free_number : Meth K t.cM "least_free_number" t.f_least_free_number
  F_lay_ply : Fun K "lay_ply" "Mould.lay_ply" s_lay_ply t.f_lay_ply t.d_lay_ply
  b_lay_ply : Binds K t.d_lay_ply ["self", "ply"] []
  m_lay_ply : Meth K t.cM "lay_ply" t.f_lay_ply
  F_lift_ply : Fun K "lift_ply" "Mould.lift_ply" s_lift_ply t.f_lift_ply t.d_lift_ply
  b_lift_ply : Binds K t.d_lift_ply ["self", "number"] []
  m_lift_ply : Meth K t.cM "lift_ply" t.f_lift_ply
  F_swap_plies : Fun K "swap_plies" "Mould.swap_plies" s_swap_plies t.f_swap_plies t.d_swap_plies
  b_swap_plies : Binds K t.d_swap_plies ["self", "one", "other"] []
  m_swap_plies : Meth K t.cM "swap_plies" t.f_swap_plies
  F_start : Fun K "start" "start" s_start t.f_start t.d_start
  b_start : Binds K t.d_start ["mould", "numbers"] []
  g_start : mg "start" = some (.ref t.f_start)
  F_set_need : Fun K "set_need" "set_need" s_set_need t.f_set_need t.d_set_need
  b_set_need : Binds K t.d_set_need ["mould", "numbers"] []
  g_set_need : mg "set_need" = some (.ref t.f_set_need)
  F_roll : Fun K "roll" "roll" s_roll t.f_roll t.d_roll
  b_roll : Binds K t.d_roll ["mould", "numbers"] []
  g_roll : mg "roll" = some (.ref t.f_roll)
  F_lay : Fun K "lay" "lay" s_lay t.f_lay t.d_lay
  b_lay : Binds K t.d_lay ["mould", "numbers"] []
  g_lay : mg "lay" = some (.ref t.f_lay)
  F_lift : Fun K "lift" "lift" s_lift t.f_lift t.d_lift
  b_lift : Binds K t.d_lift ["mould", "numbers"] []
  g_lift : mg "lift" = some (.ref t.f_lift)
  F_missing : Fun K "missing" "missing" s_missing t.f_missing t.d_missing
  b_missing : Binds K t.d_missing ["mould", "numbers"] []
  g_missing : mg "missing" = some (.ref t.f_missing)
  F_lacks : Fun K "lacks" "lacks" s_lacks t.f_lacks t.d_lacks
  b_lacks : Binds K t.d_lacks ["mould", "numbers"] []
  g_lacks : mg "lacks" = some (.ref t.f_lacks)
  F_fewest : Fun K "fewest" "fewest" s_fewest t.f_fewest t.d_fewest
  b_fewest : Binds K t.d_fewest ["mould", "numbers"] []
  g_fewest : mg "fewest" = some (.ref t.f_fewest)
  F_plan : Fun K "plan" "plan" s_plan t.f_plan t.d_plan
  b_plan : Binds K t.d_plan ["mould", "numbers"] []
  g_plan : mg "plan" = some (.ref t.f_plan)
  F_goes : Fun K "goes" "goes" s_goes t.f_goes t.d_goes
  b_goes : Binds K t.d_goes ["mould", "numbers"] []
  g_goes : mg "goes" = some (.ref t.f_goes)
  F_fabric : Fun K "fabric" "fabric" s_fabric t.f_fabric t.d_fabric
  b_fabric : Binds K t.d_fabric ["mould", "numbers"] []
  g_fabric : mg "fabric" = some (.ref t.f_fabric)
  F_follow : Fun K "follow" "follow" s_follow t.f_follow t.d_follow
  b_follow : Binds K t.d_follow ["mould", "numbers"] []
  g_follow : mg "follow" = some (.ref t.f_follow)
  F_ends : Fun K "ends" "ends" s_ends t.f_ends t.d_ends
  b_ends : Binds K t.d_ends ["mould", "numbers"] []
  g_ends : mg "ends" = some (.ref t.f_ends)
  F_worst : Fun K "worst" "worst" s_worst t.f_worst t.d_worst
  b_worst : Binds K t.d_worst ["mould", "numbers"] []
  g_worst : mg "worst" = some (.ref t.f_worst)
  F_stack : Fun K "stack" "stack" s_stack t.f_stack t.d_stack
  b_stack : Binds K t.d_stack ["mould", "numbers"] []
  g_stack : mg "stack" = some (.ref t.f_stack)
  F_kinds : Fun K "kinds" "kinds" s_kinds t.f_kinds t.d_kinds
  b_kinds : Binds K t.d_kinds ["mould", "numbers"] []
  g_kinds : mg "kinds" = some (.ref t.f_kinds)
  F_alike : Fun K "alike" "alike" s_alike t.f_alike t.d_alike
  b_alike : Binds K t.d_alike ["mould", "numbers"] []
  g_alike : mg "alike" = some (.ref t.f_alike)
  F_swap : Fun K "swap" "swap" s_swap t.f_swap t.d_swap
  b_swap : Binds K t.d_swap ["mould", "numbers"] []
  g_swap : mg "swap" = some (.ref t.f_swap)
  F_stock : Fun K "stock" "stock" s_stock t.f_stock t.d_stock
  b_stock : Binds K t.d_stock ["mould", "numbers"] []
  g_stock : mg "stock" = some (.ref t.f_stock)
  F_metres : Fun K "metres" "metres" s_metres t.f_metres t.d_metres
  b_metres : Binds K t.d_metres ["mould", "numbers"] []
  g_metres : mg "metres" = some (.ref t.f_metres)
  F_state : Fun K "state" "state" s_state t.f_state t.d_state
  b_state : Binds K t.d_state ["mould", "numbers"] []
  g_state : mg "state" = some (.ref t.f_state)
  F_answer_call : Fun K "answer_call" "answer_call" s_answer_call t.f_answer_call t.d_answer_call
  b_answer_call : Binds K t.d_answer_call ["mould", "call", "numbers"] []
  g_answer_call : mg "answer_call" = some (.ref t.f_answer_call)
  F_end_of_call : Fun K "end_of_call" "end_of_call" s_end_of_call t.f_end_of_call t.d_end_of_call
  b_end_of_call : Binds K t.d_end_of_call ["calls", "place"] []
  g_end_of_call : mg "end_of_call" = some (.ref t.f_end_of_call)
  F_answers : Fun K "answers" "answers" s_answers t.f_answers t.d_answers
  b_answers : Binds K t.d_answers ["calls"] []
  g_answers : mg "answers" = some (.ref t.f_answers)
theorem sc_count_ends : FnScope ["spans", "stations", "ends", "first", "behind"] ["spans", "stations"] (defScope s_count_ends) := ⟨rfl, rfl, rfl, by decide +kernel, rfl, by decide +kernel, by decide +kernel⟩
theorem sc_runs_lacking : FnScope ["lacking", "height", "runs", "first", "station", "lacks_here"] ["lacking", "height"] (defScope s_runs_lacking) := ⟨rfl, rfl, rfl, by decide +kernel, rfl, by decide +kernel, by decide +kernel⟩
theorem sc_plan_spans : FnScope ["lacking", "spans", "height"] ["lacking"] (defScope s_plan_spans) := ⟨rfl, rfl, rfl, by decide +kernel, rfl, by decide +kernel, by decide +kernel⟩
theorem sc_fewest_spans : FnScope ["lacking", "fewest", "lacked_before", "lacks_here"] ["lacking"] (defScope s_fewest_spans) := ⟨rfl, rfl, rfl, by decide +kernel, rfl, by decide +kernel, by decide +kernel⟩
theorem sc_longest_run : FnScope ["row", "longest", "run", "place", "kind"] ["row"] (defScope s_longest_run) := ⟨rfl, rfl, rfl, by decide +kernel, rfl, by decide +kernel, by decide +kernel⟩
theorem sc_init_Ply : FnScope ["self", "first", "behind", "kind"] ["self", "first", "behind", "kind"] (defScope s_init_Ply) := ⟨rfl, rfl, rfl, by decide +kernel, rfl, by decide +kernel, by decide +kernel⟩
theorem sc_init_Mould : FnScope ["self"] ["self"] (defScope s_init_Mould) := ⟨rfl, rfl, rfl, by decide +kernel, rfl, by decide +kernel, by decide +kernel⟩
theorem sc_begin : FnScope ["self", "long", "most_ends", "need"] ["self", "long", "most_ends", "need"] (defScope s_begin) := ⟨rfl, rfl, rfl, by decide +kernel, rfl, by decide +kernel, by decide +kernel⟩
theorem sc_station_count : FnScope ["self"] ["self"] (defScope s_station_count) := ⟨rfl, rfl, rfl, by decide +kernel, rfl, by decide +kernel, by decide +kernel⟩
theorem sc_is_begun : FnScope ["self"] ["self"] (defScope s_is_begun) := ⟨rfl, rfl, rfl, by decide +kernel, rfl, by decide +kernel, by decide +kernel⟩
theorem sc_has_station : FnScope ["self", "station"] ["self", "station"] (defScope s_has_station) := ⟨rfl, rfl, rfl, by decide +kernel, rfl, by decide +kernel, by decide +kernel⟩
theorem sc_stack_at : FnScope ["self", "station", "numbers", "number"] ["self", "station"] (defScope s_stack_at) := ⟨rfl, rfl, rfl, by decide +kernel, rfl, by decide +kernel, by decide +kernel⟩
theorem sc_kinds_at : FnScope ["self", "station", "number"] ["self", "station"] (defScope s_kinds_at) := ⟨rfl, rfl, rfl, by decide +kernel, rfl, by decide +kernel, by decide +kernel⟩
theorem sc_alike_at : FnScope ["self", "station"] ["self", "station"] (defScope s_alike_at) := ⟨rfl, rfl, rfl, by decide +kernel, rfl, by decide +kernel, by decide +kernel⟩
theorem sc_layers_at : FnScope ["self", "station"] ["self", "station"] (defScope s_layers_at) := ⟨rfl, rfl, rfl, by decide +kernel, rfl, by decide +kernel, by decide +kernel⟩
theorem sc_missing_at : FnScope ["self", "station"] ["self", "station"] (defScope s_missing_at) := ⟨rfl, rfl, rfl, by decide +kernel, rfl, by decide +kernel, by decide +kernel⟩
theorem sc_lacking : FnScope ["self", "station"] ["self"] (defScope s_lacking) := ⟨rfl, rfl, rfl, by decide +kernel, rfl, by decide +kernel, by decide +kernel⟩
theorem sc_planned : FnScope ["self"] ["self"] (defScope s_planned) := ⟨rfl, rfl, rfl, by decide +kernel, rfl, by decide +kernel, by decide +kernel⟩
theorem sc_planned_fabric : FnScope ["self"] ["self"] (defScope s_planned_fabric) := ⟨rfl, rfl, rfl, by decide +kernel, rfl, by decide +kernel, by decide +kernel⟩
theorem sc_ends_with : FnScope ["self", "more_spans", "spans", "ply"] ["self", "more_spans"] (defScope s_ends_with) := ⟨rfl, rfl, rfl, by decide +kernel, rfl, by decide +kernel, by decide +kernel⟩
theorem sc_has_ends_for : FnScope ["self", "more_spans"] ["self", "more_spans"] (defScope s_has_ends_for) := ⟨rfl, rfl, rfl, by decide +kernel, rfl, by decide +kernel, by decide +kernel⟩
theorem sc_fabric_of : FnScope ["self", "ply"] ["self", "ply"] (defScope s_fabric_of) := ⟨rfl, rfl, rfl, by decide +kernel, rfl, by decide +kernel, by decide +kernel⟩
theorem sc_fabric_in_plies : FnScope ["self", "ply"] ["self"] (defScope s_fabric_in_plies) := ⟨rfl, rfl, rfl, by decide +kernel, rfl, by decide +kernel, by decide +kernel⟩
theorem sc_least_free_number : FnScope ["self", "number"] ["self"] (defScope s_least_free_number) := ⟨rfl, rfl, rfl, by decide +kernel, rfl, by decide +kernel, by decide +kernel⟩
theorem sc_lay_ply : FnScope ["self", "ply", "number"] ["self", "ply"] (defScope s_lay_ply) := ⟨rfl, rfl, rfl, by decide +kernel, rfl, by decide +kernel, by decide +kernel⟩
theorem sc_lift_ply : FnScope ["self", "number", "scrap"] ["self", "number"] (defScope s_lift_ply) := ⟨rfl, rfl, rfl, by decide +kernel, rfl, by decide +kernel, by decide +kernel⟩
theorem sc_swap_plies : FnScope ["self", "one", "other", "ply"] ["self", "one", "other"] (defScope s_swap_plies) := ⟨rfl, rfl, rfl, by decide +kernel, rfl, by decide +kernel, by decide +kernel⟩
theorem sc_start : FnScope ["mould", "numbers", "long", "most_ends", "need"] ["mould", "numbers"] (defScope s_start) := ⟨rfl, rfl, rfl, by decide +kernel, rfl, by decide +kernel, by decide +kernel⟩
theorem sc_set_need : FnScope ["mould", "numbers", "station", "layers", "needed"] ["mould", "numbers"] (defScope s_set_need) := ⟨rfl, rfl, rfl, by decide +kernel, rfl, by decide +kernel, by decide +kernel⟩
theorem sc_roll : FnScope ["mould", "numbers", "kind", "more"] ["mould", "numbers"] (defScope s_roll) := ⟨rfl, rfl, rfl, by decide +kernel, rfl, by decide +kernel, by decide +kernel⟩
theorem sc_lay : FnScope ["mould", "numbers", "ply"] ["mould", "numbers"] (defScope s_lay) := ⟨rfl, rfl, rfl, by decide +kernel, rfl, by decide +kernel, by decide +kernel⟩
theorem sc_lift : FnScope ["mould", "numbers", "number"] ["mould", "numbers"] (defScope s_lift) := ⟨rfl, rfl, rfl, by decide +kernel, rfl, by decide +kernel, by decide +kernel⟩
theorem sc_missing : FnScope ["mould", "numbers", "station"] ["mould", "numbers"] (defScope s_missing) := ⟨rfl, rfl, rfl, by decide +kernel, rfl, by decide +kernel, by decide +kernel⟩
theorem sc_lacks : FnScope ["mould", "numbers"] ["mould", "numbers"] (defScope s_lacks) := ⟨rfl, rfl, rfl, by decide +kernel, rfl, by decide +kernel, by decide +kernel⟩
theorem sc_fewest : FnScope ["mould", "numbers"] ["mould", "numbers"] (defScope s_fewest) := ⟨rfl, rfl, rfl, by decide +kernel, rfl, by decide +kernel, by decide +kernel⟩
theorem sc_plan : FnScope ["mould", "numbers", "spans", "answer", "first", "behind"] ["mould", "numbers"] (defScope s_plan) := ⟨rfl, rfl, rfl, by decide +kernel, rfl, by decide +kernel, by decide +kernel⟩
theorem sc_goes : FnScope ["mould", "numbers"] ["mould", "numbers"] (defScope s_goes) := ⟨rfl, rfl, rfl, by decide +kernel, rfl, by decide +kernel, by decide +kernel⟩
theorem sc_fabric : FnScope ["mould", "numbers"] ["mould", "numbers"] (defScope s_fabric) := ⟨rfl, rfl, rfl, by decide +kernel, rfl, by decide +kernel, by decide +kernel⟩
theorem sc_follow : FnScope ["mould", "numbers", "kind", "spans", "first", "behind"] ["mould", "numbers"] (defScope s_follow) := ⟨rfl, rfl, rfl, by decide +kernel, rfl, by decide +kernel, by decide +kernel⟩
theorem sc_ends : FnScope ["mould", "numbers", "station"] ["mould", "numbers"] (defScope s_ends) := ⟨rfl, rfl, rfl, by decide +kernel, rfl, by decide +kernel, by decide +kernel⟩
theorem sc_worst : FnScope ["mould", "numbers", "at_each", "most"] ["mould", "numbers"] (defScope s_worst) := ⟨rfl, rfl, rfl, by decide +kernel, rfl, by decide +kernel, by decide +kernel⟩
theorem sc_stack : FnScope ["mould", "numbers", "station", "plies"] ["mould", "numbers"] (defScope s_stack) := ⟨rfl, rfl, rfl, by decide +kernel, rfl, by decide +kernel, by decide +kernel⟩
theorem sc_kinds : FnScope ["mould", "numbers", "station", "from_below", "kind"] ["mould", "numbers"] (defScope s_kinds) := ⟨rfl, rfl, rfl, by decide +kernel, rfl, by decide +kernel, by decide +kernel⟩
theorem sc_alike : FnScope ["mould", "numbers", "station"] ["mould", "numbers"] (defScope s_alike) := ⟨rfl, rfl, rfl, by decide +kernel, rfl, by decide +kernel, by decide +kernel⟩
theorem sc_swap : FnScope ["mould", "numbers", "one", "other"] ["mould", "numbers"] (defScope s_swap) := ⟨rfl, rfl, rfl, by decide +kernel, rfl, by decide +kernel, by decide +kernel⟩
theorem sc_stock : FnScope ["mould", "numbers", "kind"] ["mould", "numbers"] (defScope s_stock) := ⟨rfl, rfl, rfl, by decide +kernel, rfl, by decide +kernel, by decide +kernel⟩
theorem sc_metres : FnScope ["mould", "numbers"] ["mould", "numbers"] (defScope s_metres) := ⟨rfl, rfl, rfl, by decide +kernel, rfl, by decide +kernel, by decide +kernel⟩
theorem sc_state : FnScope ["mould", "numbers"] ["mould", "numbers"] (defScope s_state) := ⟨rfl, rfl, rfl, by decide +kernel, rfl, by decide +kernel, by decide +kernel⟩
theorem sc_answer_call : FnScope ["mould", "call", "numbers", "answered_by"] ["mould", "call", "numbers"] (defScope s_answer_call) := ⟨rfl, rfl, rfl, by decide +kernel, rfl, by decide +kernel, by decide +kernel⟩
theorem sc_end_of_call : FnScope ["calls", "place", "end"] ["calls", "place"] (defScope s_end_of_call) := ⟨rfl, rfl, rfl, by decide +kernel, rfl, by decide +kernel, by decide +kernel⟩
theorem sc_answers : FnScope ["calls", "answered", "mould", "place", "end", "answer"] ["calls"] (defScope s_answers) := ⟨rfl, rfl, rfl, by decide +kernel, rfl, by decide +kernel, by decide +kernel⟩
end Bm
end
section
set_option Elab.async false
set_option linter.all false
set_option maxRecDepth 100000
set_option maxHeartbeats 2000000
namespace Bm
open PySem PySem.Spec PyProof.Rows L2
open Kqv1 (Ply Mould)
/-! ### the data -/
abbrev iN (l : List Nat) : List V := (l.map Int.ofNat).map V.int
theorem iN_len (l : List Nat) : (iN l).length = l.length := by simp [iN]
theorem iN_get {l : List Nat} {j x : Nat} (h : l[j]? = some x) : (iN l)[j]? = some (.int (x : Int)) := by
  simp [iN, h]
theorem iN_set (l : List Nat) (j x : Nat) : (iN l).set j (.int (x : Int)) = iN (l.set j x) := by
  simp [iN, List.map_set]
theorem iN_app (l r : List Nat) : iN l ++ iN r = iN (l ++ r) := by simp [iN]
theorem iN_sum : ∀ l : List Nat, (l.map Int.ofNat).sum = ((Kqv1.sum l : Nat) : Int)
  | [] => rfl
  | x :: l => by
    rw [List.map_cons, List.sum_cons, iN_sum l, sum_cons]
    simp
def mfs (L E : Nat) (na pa sa : Addr) (S : Nat) : List (Str × V) := [("long", .int L), ("most_ends", .int E), ("need", .ref na), ("plies", .ref pa), ("stock", .ref sa), ("scrap", .int S)]
section
variable {L E : Nat} {na pa sa : Addr} {S : Nat}
theorem mf_long : (mfs L E na pa sa S).lookup ("long" : Str) = some (.int L) := rfl
theorem mf_most : (mfs L E na pa sa S).lookup ("most_ends" : Str) = some (.int E) := rfl
theorem mf_need : (mfs L E na pa sa S).lookup ("need" : Str) = some (.ref na) := rfl
theorem mf_plies : (mfs L E na pa sa S).lookup ("plies" : Str) = some (.ref pa) := rfl
theorem mf_stock : (mfs L E na pa sa S).lookup ("stock" : Str) = some (.ref sa) := rfl
theorem mf_scrap : (mfs L E na pa sa S).lookup ("scrap" : Str) = some (.int S) := rfl
theorem mf_no {x : Str} (h : x ∉ (["long", "most_ends", "need", "plies", "stock", "scrap"] : List Str)) : (mfs L E na pa sa S).lookup x = none := by
  rw [List.lookup_eq_none_iff]
  intro p hp
  have : p.1 ∈ (["long", "most_ends", "need", "plies", "stock", "scrap"] : List Str) := by
    have := List.mem_map.mpr ⟨p, hp, (rfl : p.1 = p.1)⟩
    exact this
  exact bne_iff_ne.mpr fun z : x = p.1 => h (by rw [z]; exact this)
theorem mf_put_scrap (S' : Int) (z : Nat) (hz : S' = z) : putF "scrap" (.int S') (mfs L E na pa sa S) = mfs L E na pa sa z := by
  subst hz
  rfl
end
def pfs (a b k : Nat) : List (Str × V) := [("first", .int a), ("behind", .int b), ("kind", .int k)]
theorem pf_first {a b k : Nat} : (pfs a b k).lookup ("first" : Str) = some (.int a) := rfl
theorem pf_behind {a b k : Nat} : (pfs a b k).lookup ("behind" : Str) = some (.int b) := rfl
theorem pf_kind {a b k : Nat} : (pfs a b k).lookup ("kind" : Str) = some (.int k) := rfl
def PlyAt (t : Adr) (H : Hp) (a : Addr) (x : Ply) : Prop := ∃ dx, H a = some (.ins t.cP dx (pfs x.from_ x.to x.kind))
theorem PlyAt.same {t : Adr} {H H' : Hp} {a : Addr} {x : Ply} (s : Same H H') (h : PlyAt t H a x) : PlyAt t H' a x := h.elim fun dx h => ⟨dx, s _ _ h⟩
/-! ### the dict of plies -/
abbrev Es := List (Nat × Addr × Ply)
def kvsOf (es : Es) : List (Key × V) := es.map fun e => (Sum.inl (e.1 : Int), V.ref e.2.1)
def plain (es : Es) : List (Nat × Ply) := es.map fun e => (e.1, e.2.2)
section
variable {es : Es} {m : Mould} {n : Nat} {x : Ply}
theorem kvs_len : (kvsOf es).length = es.length := by simp [kvsOf]
theorem plain_keys : (plain es).map Prod.fst = es.map fun e => e.1 := by simp [plain]
theorem es_nodup (h : (plain es).Perm (ent 0 m.plies)) : (es.map fun e => e.1).Nodup := by
  rw [← plain_keys]
  exact (h.map Prod.fst).nodup_iff.mpr (ent_nodup 0 m.plies)
theorem es_len (h : (plain es).Perm (ent 0 m.plies)) : es.length = (Kqv1.there m).length := by
  have := h.length_eq
  rw [there_ent, List.length_map, ← this]
  simp [plain]
theorem valV_kvs : ∀ (es : Es), valV (kvsOf es) (Sum.inl (n : Int)) = (es.find? fun e => decide (e.1 = n)).map fun e => V.ref e.2.1
  | [] => rfl
  | e :: es => by
    show valV ((Sum.inl (e.1 : Int), V.ref e.2.1) :: kvsOf es) _ = _
    rw [List.find?_cons]
    by_cases q : e.1 = n
    · rw [valV_pos (by show Sum.inl (e.1 : Int) = Sum.inl (n : Int); rw [q]), decide_eq_true q]; rfl
    · rw [valV_neg (by show ¬ Sum.inl (e.1 : Int) = Sum.inl (n : Int); intro z; exact q (by have := Sum.inl.inj z; omega)), decide_eq_false q]
      exact valV_kvs es
theorem es_some (h : (plain es).Perm (ent 0 m.plies)) (hx : m.plies.getD n none = some x) : ∃ a, (n, a, x) ∈ es ∧ valV (kvsOf es) (Sum.inl (n : Int)) = some (.ref a) := by
  have h1 : (n, x) ∈ plain es := h.mem_iff.mpr (ent_mem0.mpr hx)
  obtain ⟨e, he, e1⟩ := List.mem_map.mp h1
  obtain ⟨n', a, x'⟩ := e
  have e2 : n' = n := congrArg Prod.fst e1
  have e3 : x' = x := congrArg Prod.snd e1
  subst e2 e3
  refine ⟨a, he, ?_⟩
  rw [valV_kvs]
  have nd := es_nodup h
  have : es.find? (fun e => decide (e.1 = n')) = some (n', a, x') := by
    revert he nd
    clear h1 h hx e1
    induction es with
    | nil => intro he; cases he
    | cons b es ih =>
      intro he nd
      rw [List.map_cons, List.nodup_cons] at nd
      rw [List.find?_cons]
      rcases List.mem_cons.mp he with q | q
      · subst q; simp
      · have : b.1 ≠ n' := fun z => nd.1 (List.mem_map.mpr ⟨_, q, z.symm⟩)
        rw [decide_eq_false this]
        exact ih q nd.2
  rw [this]
  rfl
theorem es_none (h : (plain es).Perm (ent 0 m.plies)) (hx : m.plies.getD n none = none) : valV (kvsOf es) (Sum.inl (n : Int)) = none := by
  rw [valV_kvs]
  have : es.find? (fun e => decide (e.1 = n)) = none := by
    rw [List.find?_eq_none]
    intro e he
    have h1 : (e.1, e.2.2) ∈ plain es := List.mem_map.mpr ⟨e, he, rfl⟩
    have h2 := ent_mem0.mp (h.mem_iff.mp h1)
    intro z
    have z : e.1 = n := of_decide_eq_true z
    rw [z, hx] at h2
    cases h2
  rw [this]
  rfl
theorem es_isSome (h : (plain es).Perm (ent 0 m.plies)) : (valV (kvsOf es) (Sum.inl (n : Int))).isSome = (m.plies.getD n none).isSome := by
  cases e : m.plies.getD n none with
  | none => rw [es_none h e]; rfl
  | some x =>
    obtain ⟨a, _, h2⟩ := es_some h e
    rw [h2]; rfl
theorem es_mem (h : (plain es).Perm (ent 0 m.plies)) {e : Nat × Addr × Ply} (he : e ∈ es) : m.plies.getD e.1 none = some e.2.2 :=
  ent_mem0.mp (h.mem_iff.mp (List.mem_map.mpr ⟨e, he, rfl⟩))
theorem es_there (h : (plain es).Perm (ent 0 m.plies)) : (es.map fun e => e.2.2).Perm (Kqv1.there m) := by
  rw [there_ent]
  have := h.map Prod.snd
  unfold plain at this
  rw [List.map_map] at this
  exact this
theorem es_put (h : (plain es).Perm (ent 0 m.plies)) (a : Addr) (hx : m.plies.getD n none = none) : putK (kvsOf es) (Sum.inl (n : Int)) (.ref a) = kvsOf (es ++ [(n, a, x)]) := by
  rw [putK_new _ (es_none h hx)]
  simp [kvsOf]
theorem es_drop : dropK (kvsOf es) (Sum.inl (n : Int)) = kvsOf (es.filter fun e => !decide (e.1 = n)) := by
  unfold dropK kvsOf
  rw [List.filter_map]
  congr 1
  refine List.filter_congr fun e _ => ?_
  show decide (¬ Sum.inl (e.1 : Int) = Sum.inl (n : Int)) = !decide (e.1 = n)
  by_cases q : e.1 = n
  · simp [q]
  · have : ¬ (Sum.inl (e.1 : Int) : Key) = Sum.inl (n : Int) := fun z => q (by have := Sum.inl.inj z; omega)
    simp [q, this]
theorem es_putOld {y : Ply} {b : Addr} (h : (plain es).Perm (ent 0 m.plies)) (hx : m.plies.getD n none = some x) : putK (kvsOf es) (Sum.inl (n : Int)) (.ref b) = kvsOf (es.map fun e => if e.1 = n then (e.1, b, y) else e) := by
  obtain ⟨a, _, h2⟩ := es_some h hx
  unfold putK
  rw [valV_any, h2, if_pos (show (some (V.ref a)).isSome = true from rfl)]
  unfold kvsOf
  rw [List.map_map, List.map_map]
  refine List.map_congr_left fun e _ => ?_
  by_cases q : e.1 = n
  · simp [q]
  · have : ¬ (Sum.inl (e.1 : Int) : Key) = Sum.inl (n : Int) := fun z => q (by have := Sum.inl.inj z; omega)
    simp [q]
    intro z; exact absurd (by omega) q
theorem kvs_keys : (kvsOf es).map (·.1) = (es.map fun e => (e.1 : Int)).map Sum.inl := by simp [kvsOf]
theorem sorted_eq (h : (plain es).Perm (ent 0 m.plies)) {ns : List Int} (hp : ns.Perm (es.map fun e => (e.1 : Int))) (hs : ns.Pairwise (· ≤ ·)) : ns = ((ent 0 m.plies).map Prod.fst).map Int.ofNat := by
  refine PySem.W.ksm_same ?_ hs ?_
  · refine hp.trans ?_
    have := (h.map Prod.fst).map Int.ofNat
    rw [plain_keys, List.map_map] at this
    exact this
  · rw [List.pairwise_map]
    exact (ent_sorted 0 m.plies).imp fun h => by show ((_ : Nat) : Int) ≤ ((_ : Nat) : Int); omega
end
/-! ### the mould -/
structure MAt (t : Adr) (H : Hp) (p na pa sa : Addr) (m : Mould) : Prop where
  ins : ∃ dx, H p = some (.ins t.cM dx (mfs m.long m.ends na pa sa m.scrap))
  need : H na = some (.lst (iN m.need))
  stock : H sa = some (.lst (iN m.stock))
  plies : ∃ es : Es, H pa = some (.dK (kvsOf es)) ∧ (∀ e ∈ es, PlyAt t H e.2.1 e.2.2) ∧ (plain es).Perm (ent 0 m.plies)
  ns : na ≠ sa
theorem MAt.same {t : Adr} {H H' : Hp} {p na pa sa : Addr} {m : Mould} (s : Same H H') (h : MAt t H p na pa sa m) : MAt t H' p na pa sa m := by
  obtain ⟨⟨dx, h1⟩, h2, h3, ⟨es, h4, h5, h6⟩, h7⟩ := h
  exact ⟨⟨dx, s _ _ h1⟩, s _ _ h2, s _ _ h3, ⟨es, s _ _ h4, fun e he => (h5 e he).same s, h6⟩, h7⟩
/-- what is not the mould's stays -/
structure Kept (H H' : Hp) (p na pa sa na' pa' sa' : Addr) : Prop where
  keep : ∀ b o, H b = some o → b ≠ p → b ≠ na → b ≠ pa → b ≠ sa → H' b = some o ∧ b ≠ na' ∧ b ≠ pa' ∧ b ≠ sa'
theorem same_new {H : Hp} {l : Addr} {o : HO} (h : H l = none) : Same H (upd H l o) := fun b u e => by
  rw [upd_ne (ne_of_none e h)]; exact e
theorem Kept.of_same {H H' : Hp} {p na pa sa : Addr} (s : Same H H') : Kept H H' p na pa sa na pa sa := ⟨fun b o h _ h2 h3 h4 => ⟨s b o h, h2, h3, h4⟩⟩
end Bm
end
section
set_option Elab.async false
set_option linter.all false
set_option maxRecDepth 100000
set_option maxHeartbeats 2000000
namespace Bm
open PySem PySem.Spec PyProof.Rows L2
open Kqv1 (Ply Mould)
/-! ### spans: a list of pairs -/
def TupAt (H : Hp) (v : V) (p : Nat × Nat) : Prop := ∃ q, v = .ref q ∧ H q = some (.tup [.int (p.1 : Int), .int (p.2 : Int)])
def SpAt (H : Hp) (l : Addr) (sp : List (Nat × Nat)) : Prop := ∃ vs, H l = some (.lst vs) ∧ Paired (TupAt H) vs sp
theorem TupAt.same {H H' : Hp} (s : Same H H') {v : V} {p : Nat × Nat} (h : TupAt H v p) : TupAt H' v p := h.elim fun q h => ⟨q, h.1, s _ _ h.2⟩
theorem SpAt.same {H H' : Hp} (s : Same H H') {l : Addr} {sp : List (Nat × Nat)} (h : SpAt H l sp) : SpAt H' l sp := by
  obtain ⟨vs, h1, h2⟩ := h
  exact ⟨vs, s _ _ h1, Paired.mapP h2 fun _ _ x => x.same s⟩
theorem paired_get {α β : Type} {F : α → β → Prop} : ∀ {xs : List α} {ys : List β} {i : Nat} {x : α}, Paired F xs ys → xs[i]? = some x → ∃ y, ys[i]? = some y ∧ F x y
  | _, _, _, _, .nil, e => by simp at e
  | _, _, 0, _, .cons r _, e => by simp at e; subst e; exact ⟨_, rfl, r⟩
  | _, _, i + 1, x, .cons _ t, e => by
    obtain ⟨u, h1, h2⟩ := paired_get (i := i) (x := x) t (by simpa using e)
    exact ⟨u, by simpa using h1, h2⟩
theorem paired_app {α β : Type} {F : α → β → Prop} : ∀ {xs xs' : List α} {ys ys' : List β}, Paired F xs ys → Paired F xs' ys' → Paired F (xs ++ xs') (ys ++ ys')
  | _, _, _, _, .nil, s => s
  | _, _, _, _, .cons r t, s => .cons r (paired_app t s)
theorem paired_len {α β : Type} {F : α → β → Prop} : ∀ {xs : List α} {ys : List β}, Paired F xs ys → xs.length = ys.length
  | _, _, .nil => rfl
  | _, _, .cons _ t => by rw [List.length_cons, List.length_cons, paired_len t]
theorem take_snoc {α : Type} : ∀ {l : List α} {i : Nat} {x : α}, l[i]? = some x → l.take (i + 1) = l.take i ++ [x]
  | [], i, x, h => by simp at h
  | a :: l, 0, x, h => by
    have e : a = x := Option.some.inj h
    subst e
    rfl
  | a :: l, i + 1, x, h => by
    have ih := take_snoc (l := l) (i := i) (x := x) h
    show a :: l.take (i + 1) = a :: l.take i ++ [x]
    rw [ih]
    rfl
theorem iN_inv {l : List Nat} {i : Nat} {v : V} (h : (iN l)[i]? = some v) : ∃ x, l[i]? = some x ∧ v = .int (x : Int) := by
  unfold iN at h
  rw [List.getElem?_map, List.getElem?_map] at h
  cases e : l[i]? with
  | none => rw [e] at h; cases h
  | some x => rw [e] at h; exact ⟨x, rfl, (Option.some.inj h).symm⟩
def pairs (l : List Ply) : List (Nat × Nat) := l.map fun p => (p.from_, p.to)
def endsL (m : Mould) (sp : List (Nat × Nat)) : List Nat := (List.range (Kqv1.stations m)).map (endsOf (pairs (Kqv1.there m) ++ sp) (Kqv1.stations m))
theorem endsL_with (m : Mould) (l : List Ply) : (List.range (Kqv1.stations m)).map (Kqv1.endsAt (Kqv1.with_ m l)) = endsL m (pairs l) := by
  unfold endsL pairs
  refine List.map_congr_left fun b _ => ?_
  rw [endsAt_eq, there_with, List.map_append]
  rfl
theorem endsL_nil (m : Mould) : (List.range (Kqv1.stations m)).map (Kqv1.endsAt m) = endsL m [] := by
  unfold endsL pairs
  refine List.map_congr_left fun b _ => ?_
  rw [endsAt_eq, List.append_nil]
theorem fits_with (m : Mould) (l : List Ply) : Kqv1.fitsEnds (Kqv1.with_ m l) = decide (∀ x ∈ endsL m (pairs l), x ≤ m.ends) := by
  rw [← endsL_with]
  have := fitsEnds_iff (Kqv1.with_ m l)
  by_cases h : Kqv1.fitsEnds (Kqv1.with_ m l) = true
  · rw [h]; exact (decide_eq_true (this.mp h)).symm
  · have h2 : Kqv1.fitsEnds (Kqv1.with_ m l) = false := by simpa using h
    rw [h2]
    exact (decide_eq_false fun z => h (this.mpr z)).symm
/-! ### the promises -/
section
variable (t : Adr)
def sp_count_ends : Sp := fun vs H Q _ => ∃ (a : Addr) (sp : List (Nat × Nat)) (st : Nat), vs = [.ref a, .int st] ∧ SpAt H a sp ∧ (∀ p ∈ sp, p.1 < p.2 ∧ p.2 ≤ st) ∧ st ≤ 12 ∧
  ∀ (H' : Hp) (l : Addr), Same H H' → H' l = some (.lst (iN ((List.range st).map (endsOf sp st)))) → Q (.ref l) H'
def sp_runs_lacking : Sp := fun vs H Q _ => ∃ (a : Addr) (l : List Nat) (h : Nat), vs = [.ref a, .int h] ∧ H a = some (.lst (iN l)) ∧ 1 ≤ h ∧ l.length ≤ 12 ∧
  ∀ (H' : Hp) (r : Addr), Same H H' → SpAt H' r (Kqv1.runs l h) → Q (.ref r) H'
def sp_plan_spans : Sp := fun vs H Q _ => ∃ (a : Addr) (l : List Nat), vs = [.ref a] ∧ H a = some (.lst (iN l)) ∧ l ≠ [] ∧ l.length ≤ 12 ∧ (∀ x ∈ l, x ≤ 12) ∧
  ∀ (H' : Hp) (r : Addr), Same H H' → SpAt H' r (Kqv1.planOf l) → Q (.ref r) H'
def sp_fewest_spans : Sp := fun vs H Q _ => ∃ (a : Addr) (l : List Nat), vs = [.ref a] ∧ H a = some (.lst (iN l)) ∧ Q (.int (Kqv1.begins 0 l : Nat)) H
def sp_longest_run : Sp := fun vs H Q _ => ∃ (a : Addr) (l : List Nat), vs = [.ref a] ∧ H a = some (.lst (iN l)) ∧ ∀ H' : Hp, Same H H' → Q (.int (alikeOf l : Nat)) H'
def sp_init_Ply : Sp := fun vs H Q _ => ∃ (p dx : Addr) (a b k : Nat), vs = [.ref p, .int a, .int b, .int k] ∧ H p = some (.ins t.cP dx []) ∧
  ∀ H' : Hp, PlyAt t H' p ⟨a, b, k⟩ → (∀ b o, H b = some o → b ≠ p → H' b = some o) → Q .non H'
def m0 : Mould := ⟨0, 0, [], [], [0, 0, 0, 0], 0, 0⟩
def sp_begin : Sp := fun vs H Q _ => ∃ (p n0 dx : Addr) (fs : List (Str × V)) (L E : Nat) (need : List Nat), vs = [.ref p, .int L, .int E, .ref n0] ∧ H p = some (.ins t.cM dx fs) ∧
  (fs = [] ∨ ∃ (L' E' : Nat) (na pa sa : Addr) (S : Nat), fs = mfs L' E' na pa sa S) ∧ H n0 = some (.lst (iN need)) ∧
  ∀ (H' : Hp) (na pa sa : Addr), MAt t H' p na pa sa ⟨L, E, need, [], [0, 0, 0, 0], 0, 0⟩ → H na = none → H pa = none → H sa = none → (∀ b o, H b = some o → b ≠ p → H' b = some o) → Q .non H'
def sp_init_Mould : Sp := fun vs H Q _ => ∃ (p dx : Addr), vs = [.ref p] ∧ H p = some (.ins t.cM dx []) ∧
  ∀ (H' : Hp) (na pa sa : Addr), MAt t H' p na pa sa m0 → H na = none → H pa = none → H sa = none → (∀ b o, H b = some o → b ≠ p → H' b = some o) → Q .non H'
def sp_station_count : Sp := fun vs H Q _ => ∃ (p na pa sa : Addr) (m : Mould), vs = [.ref p] ∧ MAt t H p na pa sa m ∧ Q (.int (Kqv1.stations m : Nat)) H
def sp_is_begun : Sp := fun vs H Q _ => ∃ (p na pa sa : Addr) (m : Mould), vs = [.ref p] ∧ MAt t H p na pa sa m ∧ Q (.bl (decide (0 < Kqv1.stations m))) H
def sp_has_station : Sp := fun vs H Q _ => ∃ (p na pa sa : Addr) (m : Mould) (i : Nat), vs = [.ref p, .int i] ∧ MAt t H p na pa sa m ∧ Q (.bl (decide (i < Kqv1.stations m))) H
def sp_stack_at : Sp := fun vs H Q _ => ∃ (p na pa sa : Addr) (m : Mould) (i : Nat), vs = [.ref p, .int i] ∧ MAt t H p na pa sa m ∧ (Kqv1.there m).length < 64 ∧
  ∀ (H' : Hp) (l : Addr), Same H H' → H' l = some (.lst (iN (Kqv1.stack m i))) → Q (.ref l) H'
def sp_kinds_at : Sp := fun vs H Q _ => ∃ (p na pa sa : Addr) (m : Mould) (i : Nat), vs = [.ref p, .int i] ∧ MAt t H p na pa sa m ∧ (Kqv1.there m).length < 64 ∧
  ∀ (H' : Hp) (l : Addr), Same H H' → H' l = some (.lst (iN ((Kqv1.stack m i).map (Kqv1.kindOf m)))) → Q (.ref l) H'
def sp_alike_at : Sp := fun vs H Q _ => ∃ (p na pa sa : Addr) (m : Mould) (i : Nat), vs = [.ref p, .int i] ∧ MAt t H p na pa sa m ∧ (Kqv1.there m).length < 64 ∧
  ∀ (H' : Hp), Same H H' → Q (.int (Kqv1.alike m i : Nat)) H'
def sp_layers_at : Sp := fun vs H Q _ => ∃ (p na pa sa : Addr) (m : Mould) (i : Nat), vs = [.ref p, .int i] ∧ MAt t H p na pa sa m ∧ (Kqv1.there m).length < 64 ∧
  ∀ (H' : Hp), Same H H' → Q (.int (Kqv1.layers m i : Nat)) H'
def sp_missing_at : Sp := fun vs H Q _ => ∃ (p na pa sa : Addr) (m : Mould) (i : Nat), vs = [.ref p, .int i] ∧ MAt t H p na pa sa m ∧ Fit m ∧ i < Kqv1.stations m ∧
  ∀ (H' : Hp), Same H H' → Q (.int (Kqv1.missing m i : Nat)) H'
def sp_lacking : Sp := fun vs H Q _ => ∃ (p na pa sa : Addr) (m : Mould), vs = [.ref p] ∧ MAt t H p na pa sa m ∧ Fit m ∧
  ∀ (H' : Hp) (l : Addr), Same H H' → H' l = some (.lst (iN (Kqv1.lacks m))) → Q (.ref l) H'
def sp_planned : Sp := fun vs H Q _ => ∃ (p na pa sa : Addr) (m : Mould), vs = [.ref p] ∧ MAt t H p na pa sa m ∧ Fit m ∧
  ∀ (H' : Hp) (l : Addr), Same H H' → SpAt H' l (Kqv1.plan m) → Q (.ref l) H'
def sp_planned_fabric : Sp := fun vs H Q _ => ∃ (p na pa sa : Addr) (m : Mould), vs = [.ref p] ∧ MAt t H p na pa sa m ∧ Fit m ∧
  ∀ (H' : Hp), Same H H' → Q (.int (Kqv1.fabric m : Nat)) H'
def sp_ends_with : Sp := fun vs H Q _ => ∃ (p na pa sa l : Addr) (m : Mould) (sp : List (Nat × Nat)), vs = [.ref p, .ref l] ∧ MAt t H p na pa sa m ∧ Fit m ∧ SpAt H l sp ∧ (∀ q ∈ sp, q.1 < q.2 ∧ q.2 ≤ Kqv1.stations m) ∧ sp.length ≤ 1000 ∧
  ∀ (H' : Hp) (l : Addr), Same H H' → H' l = some (.lst (iN (endsL m sp))) → Q (.ref l) H'
def sp_has_ends_for : Sp := fun vs H Q _ => ∃ (p na pa sa l : Addr) (m : Mould) (sp : List (Nat × Nat)), vs = [.ref p, .ref l] ∧ MAt t H p na pa sa m ∧ Fit m ∧ SpAt H l sp ∧ (∀ q ∈ sp, q.1 < q.2 ∧ q.2 ≤ Kqv1.stations m) ∧ sp.length ≤ 1000 ∧
  ∀ (H' : Hp), Same H H' → Q (.bl (decide (∀ x ∈ endsL m sp, x ≤ m.ends))) H'
def sp_fabric_of : Sp := fun vs H Q _ => ∃ (p a dx : Addr) (fs : List (Str × V)) (L : Nat) (x : Ply), vs = [.ref p, .ref a] ∧ H p = some (.ins t.cM dx fs) ∧ fs.lookup ("long" : Str) = some (.int L) ∧ L ≤ 100 ∧ PlyAt t H a x ∧ x.from_ ≤ x.to ∧
  Q (.int ((x.to - x.from_) * L : Nat)) H
def sp_fabric_in_plies : Sp := fun vs H Q _ => ∃ (p na pa sa : Addr) (m : Mould), vs = [.ref p] ∧ MAt t H p na pa sa m ∧ Fit m ∧
  ∀ (H' : Hp), Same H H' → Q (.int (m.used : Nat)) H'
def sp_least_free_number : Sp := fun vs H Q _ => ∃ (p na pa sa : Addr) (m : Mould), vs = [.ref p] ∧ MAt t H p na pa sa m ∧ Q (.int (Kqv1.slot m.plies : Nat)) H
def sp_lay_ply : Sp := fun vs H Q _ => ∃ (p na pa sa a : Addr) (m : Mould) (x : Ply), vs = [.ref p, .ref a] ∧ MAt t H p na pa sa m ∧ PlyAt t H a x ∧ x.from_ ≤ x.to ∧ x.kind < m.stock.length ∧ (Kqv1.there m).length ≤ 1000 ∧ m.long ≤ 100 ∧ Kqv1.long m x ≤ Kqv1.have_ m x.kind ∧
  ∀ H' : Hp, MAt t H' p na pa sa (Kqv1.laid m x) → (∀ b o, H b = some o → b ≠ pa → b ≠ sa → H' b = some o) → Q (.int (Kqv1.slot m.plies : Nat)) H'
def sp_lift_ply : Sp := fun vs H Q _ => ∃ (p na pa sa : Addr) (m : Mould) (n : Nat) (x : Ply), vs = [.ref p, .int n] ∧ MAt t H p na pa sa m ∧ m.plies.getD n none = some x ∧ x.from_ ≤ x.to ∧ m.long ≤ 100 ∧
  ∀ H' : Hp, MAt t H' p na pa sa { m with plies := m.plies.set n none, used := m.used - Kqv1.long m x, scrap := m.scrap + Kqv1.long m x } → (∀ b o, H b = some o → b ≠ pa → b ≠ p → H' b = some o) → Q (.int (Kqv1.long m x : Nat)) H'
def sp_swap_plies : Sp := fun vs H Q _ => ∃ (p na pa sa : Addr) (m : Mould) (n k : Nat) (x y : Ply), vs = [.ref p, .int n, .int k] ∧ MAt t H p na pa sa m ∧ m.plies.getD n none = some x ∧ m.plies.getD k none = some y ∧ n ≠ k ∧ (Kqv1.there m).length ≤ 1000 ∧
  ∀ H' : Hp, MAt t H' p na pa sa { m with plies := (m.plies.set n (some y)).set k (some x) } → (∀ b o, H b = some o → b ≠ pa → H' b = some o) → Q .non H'
/-! the calls -/
inductive MSt (H : Hp) (p na pa sa : Addr) : Option Mould → Prop where
  | no : MAt t H p na pa sa m0 → MSt H p na pa sa none
  | yes {m : Mould} : MAt t H p na pa sa m → Fit m → MSt H p na pa sa (some m)
def Done (H : Hp) (p na pa sa : Addr) (Q : VK) (s : Option Mould) (c : Kqv1.Call) : Prop :=
  ∀ (H' : Hp) (na' pa' sa' r : Addr), MSt t H' p na' pa' sa' (Kqv1.step s c).1 → Kept H H' p na pa sa na' pa' sa' → H' r = some (.lst ((Kqv1Neutral.tell (Kqv1.step s c).2).map V.int)) → (∀ b o, H b = some o → b ≠ p → b ≠ na → b ≠ pa → b ≠ sa → b ≠ r) → Q (.ref r) H'
def sp_do (c : Kqv1.Call) (ns : List Nat) : Sp := fun vs H Q _ => ∃ (p l na pa sa : Addr) (m : Mould), vs = [.ref p, .ref l] ∧ MAt t H p na pa sa m ∧ Fit m ∧ H l = some (.lst (iN ns)) ∧ Done t H p na pa sa Q (some m) c
def sp_start : Sp := fun vs H Q _ => ∃ (p l na pa sa : Addr) (s : Option Mould) (L E c : Nat) (need : List Nat), vs = [.ref p, .ref l] ∧ MSt t H p na pa sa s ∧ H l = some (.lst (iN (L :: E :: c :: need))) ∧ need.length ≤ 60 ∧ Done t H p na pa sa Q s (.start L E need)
def sp_set_need : Sp := fun vs H Q E => ∃ i n, sp_do t (.set i n) [i, n] vs H Q E
def sp_roll : Sp := fun vs H Q E => ∃ i n, sp_do t (.roll i n) [i, n] vs H Q E
def sp_lay : Sp := fun vs H Q E => ∃ a b k, sp_do t (.lay a b k) [a, b, k] vs H Q E
def sp_lift : Sp := fun vs H Q E => ∃ i, sp_do t (.lift i) [i] vs H Q E
def sp_missing : Sp := fun vs H Q E => ∃ i, sp_do t (.missing i) [i] vs H Q E
def sp_lacks : Sp := sp_do t .lacks []
def sp_fewest : Sp := sp_do t .fewest []
def sp_plan : Sp := sp_do t .plan []
def sp_goes : Sp := sp_do t .goes []
def sp_fabric : Sp := sp_do t .fabric []
def sp_follow : Sp := fun vs H Q E => ∃ i, sp_do t (.follow i) [i] vs H Q E
def sp_ends : Sp := fun vs H Q E => ∃ i, sp_do t (.ends i) [i] vs H Q E
def sp_worst : Sp := sp_do t .worst []
def sp_stack : Sp := fun vs H Q E => ∃ i, sp_do t (.stack i) [i] vs H Q E
def sp_kinds : Sp := fun vs H Q E => ∃ i, sp_do t (.kinds i) [i] vs H Q E
def sp_alike : Sp := fun vs H Q E => ∃ i, sp_do t (.alike i) [i] vs H Q E
def sp_swap : Sp := fun vs H Q E => ∃ i n, sp_do t (.swap i n) [i, n] vs H Q E
def sp_stock : Sp := fun vs H Q E => ∃ i, sp_do t (.stock i) [i] vs H Q E
def sp_metres : Sp := sp_do t .metres []
def sp_state : Sp := sp_do t .state []
end
end Bm
end
section
set_option Elab.async false
set_option linter.all false
set_option maxRecDepth 100000
set_option maxHeartbeats 4000000
namespace Bm
open PySem PySem.Spec PyProof.Rows L2
open Kqv1 (Ply Mould)
section
variable {P : Program} {w : World} {K : PySem.W.Frag} {mg : Str → Option Value} {base : Heap} {t : Adr}
theorem same_upd {H H' : Hp} {e : Addr} {o : HO} (s : Same H H') (h : H e = none) : Same H (upd H' e o) := fun b u q => by
  rw [upd_ne (ne_of_none q h)]; exact s b u q
theorem ixN_nat {n j : Nat} (h : j < n) : ixN n (j : Int) = some j := by
  unfold ixN
  rw [if_pos (by omega), if_pos (by omega)]; simp
theorem ends0 (st : Nat) : (List.replicate ((st : Int)).toNat [V.int 0]).flatten = iN ((List.range st).map (endsOf [] st)) := by
  rw [Int.toNat_natCast]
  have : (List.range st).map (endsOf [] st) = List.replicate st 0 := by
    rw [List.eq_replicate_iff]
    refine ⟨by simp, fun b hb => ?_⟩
    obtain ⟨j, _, rfl⟩ := List.mem_map.mp hb
    unfold endsOf
    split <;> simp
  rw [this]
  unfold iN
  induction st with
  | zero => rfl
  | succ n ih =>
    have ih' : (List.replicate n [V.int 0]).flatten = ((List.replicate n 0).map Int.ofNat).map V.int := by simp
    rw [List.replicate_succ, List.flatten_cons, ih', List.replicate_succ]; rfl
theorem rng_get {g : Nat → Nat} {n j : Nat} (h : j < n) : ((List.range n).map g)[j]? = some (g j) := by
  rw [List.getElem?_map, List.getElem?_range h]; rfl
theorem bump (g : Nat → Nat) (n j : Nat) : (iN ((List.range n).map g)).set j (.int ((g j : Int) + 1)) = iN ((List.range n).map fun i => if i = j then g j + 1 else g i) := by
  have := iN_set ((List.range n).map g) j (g j + 1)
  rw [map_range_set] at this
  exact this
theorem ends_step {sp : List (Nat × Nat)} {f b st : Nat} {g : Nat → Nat} (h1 : f < b) (h2 : b ≤ st)
    (hg : ∀ j, j < st → g j = endsOf sp st j + if (0 < f ∧ j = f) ∨ (b < st ∧ j = b) then 1 else 0) : iN ((List.range st).map g) = iN ((List.range st).map (endsOf (sp ++ [(f, b)]) st)) := by
  refine congrArg iN (List.map_congr_left fun j hj => ?_)
  rw [hg j (List.mem_range.mp hj), endsOf_snoc _ _ _ _ _ h1 h2]
theorem ok_count_ends (T : Txt K mg t) : FnOk P w K mg base CX0 1 t.f_count_ends t.d_count_ends ["spans", "stations"] sp_count_ends := by
  refine T.F_count_ends.ok sc_count_ends (fun vs H Q E h => ?_) (fun cdv A outer s H vs Q E hr h => ?_)
  · obtain ⟨_, _, _, rfl, _⟩ := h
    rfl
  · obtain ⟨a, sp, st, rfl, hS, hv, h12, k⟩ := h
    have hu := hu_of hr
    refine ⟨_, (pss_cons (ps_set (i := 2) sc_count_ends.nd rfl (Or.inl rfl) (pe_op op_rep (pe_lst (pa_cons pe_int pa_nil)) (pv 1))) (pss_cons (ps_for PassesOwn.never rfl (pi_list (pv 0)) (pg_tup rfl (pgs_cons (pg_name (i := 3) sc_count_ends.nd rfl (Or.inl rfl)) (pgs_cons (pg_name (i := 4) sc_count_ends.nd rfl (Or.inl rfl)) pgs_nil))) (pss_cons (ps_if (pt_cmpR op_gt (pv 3) pe_int (nomark _)) (pss_one (ps_augS (pv 2) (pv 3) get_list pe_int ip_add set_list)) pss_nil) (pss_one (ps_if (pt_cmpR op_lt (pv 4) (pv 1) (nomark _)) (pss_one (ps_augS (pv 2) (pv 4) get_list pe_int ip_add set_list)) pss_nil)))) (pss_one (ps_ret (pv 2))))), ?_⟩
    obtain ⟨vs, ha, hP⟩ := hS
    refine ⟨(by show 1 ≤ sizeLine; decide), fun l0 hl0 => ⟨_, rfl, l0, (st : Int), _, rfl, rfl, upd_same, by omega, by omega, (by show 1 * ((st : Int)).toNat ≤ sizeLine; rw [Int.toNat_natCast, Nat.one_mul]; exact Nat.le_trans h12 (by decide)), fun e he => ?_⟩⟩
    obtain ⟨H2, hH2, s2, h2, he0⟩ : ∃ H2, H2 = upd (upd H l0 (.lst [.int 0])) e (.lst (List.replicate ((st : Int)).toNat [V.int 0]).flatten) ∧ Same H H2 ∧ H2 e = some (.lst (iN ((List.range st).map (endsOf [] st)))) ∧ H e = none :=
      ⟨_, rfl, (same_new hl0).trans (same_new he), by rw [upd_same, ends0], (same_new hl0).free he⟩
    rw [← hH2]
    refine ⟨_, rfl, a, rfl, ⟨vs, SqL.of (s2 _ _ ha)⟩, for_list (K := K) (a := a) (xs := vs) (fun i σ H' => ∃ v3 v4 : Option V, σ = [some (.ref a), some (.int st), some (.ref e), v3, v4] ∧ Same H H' ∧ H' e = some (.lst (iN ((List.range st).map (endsOf (sp.take i) st)))))
      ⟨none, none, rfl, s2, h2⟩ (fun i σ H' _ ⟨_, _, _, s, _⟩ => SqL.of (s _ _ ha)) ?_ ?_⟩
    · rintro i y σ H' hi ⟨v3, v4, rfl, s, hE⟩
      obtain ⟨⟨f, b⟩, hp, q, rfl, hq⟩ := paired_get hP hi
      obtain ⟨hfb, hbs⟩ := hv (f, b) (List.mem_of_getElem? hp)
      have hfb : f < b := hfb
      have hbs : b ≤ st := hbs
      rw [take_snoc hp]
      refine ⟨q, _, rfl, SqT.of (s _ _ hq), rfl, _, _, rfl, _, _, rfl, rfl, ?_⟩
      refine ⟨_, rfl, _, _, rfl, rfl, _, rfl, ite2 (fun c1 => ?_) (fun c1 => ?_)⟩
      · have c1 : 0 < f := by have := of_decide_eq_true c1; omega
        refine ⟨_, rfl, _, rfl, e, _, _, _, rfl, rfl, SqL.of hE, atI_nat (iN_get (rng_get (show f < st by omega))), _, _, rfl, rfl, e, _, _, f, rfl, rfl, hE, ixN_nat (by rw [iN_len]; simp; omega), ?_⟩
        rw [bump]
        refine ⟨_, rfl, _, rfl, _, _, rfl, rfl, _, rfl, ite2 (fun c2 => ?_) (fun c2 => ?_)⟩
        · have c2 : b < st := by have := of_decide_eq_true c2; omega
          refine ⟨_, rfl, _, rfl, e, _, _, _, rfl, rfl, SqL.of upd_same, atI_nat (iN_get (rng_get c2)), _, _, rfl, rfl, e, _, _, b, rfl, rfl, upd_same, ixN_nat (by rw [iN_len]; simp; omega), ?_⟩
          refine ⟨_, _, rfl, same_upd (same_upd s he0) he0, ?_⟩
          rw [upd_same, bump, ends_step hfb hbs (fun j hj => ?_)]
          by_cases q1 : j = b
          · rw [if_pos q1, if_neg (by omega), if_pos (by omega), q1]
          · rw [if_neg q1]
            by_cases q2 : j = f
            · rw [if_pos q2, if_pos (by omega), q2]
            · rw [if_neg q2, if_neg (by omega), Nat.add_zero]
        · have c2 : ¬ b < st := fun z => c2 (decide_eq_true (by omega))
          refine ⟨_, _, rfl, same_upd s he0, ?_⟩
          rw [upd_same, ends_step hfb hbs (fun j hj => ?_)]
          by_cases q2 : j = f
          · rw [if_pos q2, if_pos (by omega), q2]
          · rw [if_neg q2, if_neg (by omega), Nat.add_zero]
      · have c1 : ¬ 0 < f := fun z => c1 (decide_eq_true (by omega))
        refine ⟨_, rfl, _, rfl, _, _, rfl, rfl, _, rfl, ite2 (fun c2 => ?_) (fun c2 => ?_)⟩
        · have c2 : b < st := by have := of_decide_eq_true c2; omega
          refine ⟨_, rfl, _, rfl, e, _, _, _, rfl, rfl, SqL.of hE, atI_nat (iN_get (rng_get c2)), _, _, rfl, rfl, e, _, _, b, rfl, rfl, hE, ixN_nat (by rw [iN_len]; simp; omega), ?_⟩
          refine ⟨_, _, rfl, same_upd s he0, ?_⟩
          rw [upd_same, bump, ends_step hfb hbs (fun j hj => ?_)]
          by_cases q1 : j = b
          · rw [if_pos q1, if_pos (by omega), q1]
          · rw [if_neg q1, if_neg (by omega), Nat.add_zero]
        · have c2 : ¬ b < st := fun z => c2 (decide_eq_true (by omega))
          refine ⟨_, _, rfl, s, ?_⟩
          rw [hE, ends_step hfb hbs (fun j hj => ?_)]
          rw [if_neg (by omega), Nat.add_zero]
    · rintro σ H' ⟨v3, v4, rfl, s, hE⟩
      rw [paired_len hP, List.take_length] at hE
      exact ⟨_, rfl, k H' e s hE⟩
theorem TupAt.upd {H : Hp} {r : Addr} {vs : List V} {o : HO} {v : V} {p : Nat × Nat} (hr : H r = some (.lst vs)) (h : TupAt H v p) : TupAt (upd H r o) v p := by
  obtain ⟨q, e, hq⟩ := h
  exact ⟨q, e, by rw [upd_ne (ne_of hq hr (by intro z; cases z))]; exact hq⟩
theorem SpAt.snoc {H : Hp} {r q : Addr} {rs : List (Nat × Nat)} {p : Nat × Nat} {vs : List V} (h1 : H r = some (.lst vs)) (h2 : Paired (TupAt H) vs rs) (hq : H q = some (.tup [.int (p.1 : Int), .int (p.2 : Int)])) :
    SpAt (upd H r (.lst (vs ++ [.ref q]))) r (rs ++ [p]) :=
  ⟨_, upd_same, paired_app (Paired.mapP h2 fun _ _ x => x.upd h1) (.cons (TupAt.upd h1 ⟨q, rfl, hq⟩) .nil)⟩
theorem SpAt.ext {H : Hp} {r : Addr} {rs zs : List (Nat × Nat)} {vs us : List V} (h1 : H r = some (.lst vs)) (h2 : Paired (TupAt H) vs rs) (h3 : Paired (TupAt H) us zs) :
    SpAt (upd H r (.lst (vs ++ us))) r (rs ++ zs) :=
  ⟨_, upd_same, paired_app (Paired.mapP h2 fun _ _ x => x.upd h1) (Paired.mapP h3 fun _ _ x => x.upd h1)⟩
theorem RunInv.len {l : List Nat} {h i f : Nat} {rs : List (Nat × Nat)} (R : RunInv l h i f rs) : rs.length ≤ i := by
  rw [R.eq]
  refine Nat.le_trans (List.length_filterMap_le _ _) ?_
  rw [List.length_range]
  exact R.fi
theorem getD_of {l : List Nat} {i x : Nat} (h : l[i]? = some x) : l.getD i 0 = x := by rw [List.getD_eq_getElem?_getD, h]; rfl
theorem ok_runs_lacking (T : Txt K mg t) : FnOk P w K mg base CX0 1 t.f_runs_lacking t.d_runs_lacking ["lacking", "height"] sp_runs_lacking := by
  refine T.F_runs_lacking.ok sc_runs_lacking (fun vs H Q E h => ?_) (fun cdv A outer s H vs Q E hr h => ?_)
  · obtain ⟨_, _, _, rfl, _⟩ := h
    rfl
  · obtain ⟨a, l, h, rfl, ha, h1, h12, k⟩ := h
    have hu := hu_of hr
    refine ⟨_, (pss_cons (ps_set (i := 2) sc_runs_lacking.nd rfl (Or.inl rfl) (pe_lst pa_nil)) (pss_cons (ps_set (i := 3) sc_runs_lacking.nd rfl (Or.inl rfl) pe_int) (pss_cons (ps_for PassesOwn.never rfl (pi_enum rfl T.n_enumerate (pa_cons (pv 0) pa_nil)) (pg_tup rfl (pgs_cons (pg_name (i := 4) sc_runs_lacking.nd rfl (Or.inl rfl)) (pgs_cons (pg_name (i := 5) sc_runs_lacking.nd rfl (Or.inl rfl)) pgs_nil))) (pss_one (ps_if (pt_cmpR op_lt (pv 5) (pv 1) (nomark _)) (pss_cons (ps_if (pt_cmpR op_lt (pv 3) (pv 4) (nomark _)) (pss_one (ps_expr (pe_bm PySem.F.plainAttrs_list PySem.F.slot_list_append PySem.F.type_list_append mt_append (pv 2) (pa_cons (pe_tup (pa_cons (pv 3) (pa_cons (pv 4) pa_nil))) pa_nil)))) pss_nil) (pss_one (ps_set (i := 3) sc_runs_lacking.nd rfl (Or.inl rfl) (pe_op op_add (pv 4) pe_int)))) pss_nil))) (pss_cons (ps_if (pt_cmpR op_lt (pv 3) (pe_callB call_len_seq rfl T.n_len PySem.boot_len (pa_cons (pv 0) pa_nil)) (nomark _)) (pss_one (ps_expr (pe_bm PySem.F.plainAttrs_list PySem.F.slot_list_append PySem.F.type_list_append mt_append (pv 2) (pa_cons (pe_tup (pa_cons (pv 3) (pa_cons (pe_callB call_len_seq rfl T.n_len PySem.boot_len (pa_cons (pv 0) pa_nil)) pa_nil))) pa_nil)))) pss_nil) (pss_one (ps_ret (pv 2))))))), ?_⟩
    refine ⟨Nat.zero_le _, fun r hr0 => ?_⟩
    refine ⟨_, rfl, a, _, rfl, SqL.of (same_new hr0 _ _ ha), for_enum (K := K) (a := a) (xs := iN l) (fun i σ H' => ∃ (f : Nat) (rs : List (Nat × Nat)) (v4 v5 : Option V), σ = [some (.ref a), some (.int h), some (.ref r), some (.int f), v4, v5] ∧ Same H H' ∧ SpAt H' r rs ∧ RunInv l h i f rs)
      ⟨0, [], none, none, rfl, same_new hr0, ⟨_, upd_same, .nil⟩, .start⟩ (fun i σ H' _ ⟨_, _, _, _, _, s, _⟩ => SqL.of (s _ _ ha)) ?_ ?_⟩
    · rintro i y σ H' q hi hq ⟨f, rs, v4, v5, rfl, s, ⟨vs, hv1, hv2⟩, R⟩
      obtain ⟨x, hx, rfl⟩ := iN_inv hi
      have hil : i < l.length := (List.getElem?_eq_some_iff.mp hx).1
      have s1 : Same H' (upd H' q (.tup [.int (i : Nat), .int (x : Int)])) := same_new hq
      have hP1 := Paired.mapP hv2 fun _ _ z => z.same s1
      refine ⟨q, _, rfl, SqT.of upd_same, rfl, _, _, rfl, _, _, rfl, rfl, ?_⟩
      refine ⟨_, rfl, _, rfl, _, _, rfl, rfl, _, rfl, ite2 (fun c1 => ?_) (fun c1 => ?_)⟩
      · have c1 : l.getD i 0 < h := by rw [getD_of hx]; have := of_decide_eq_true c1; omega
        refine ⟨_, rfl, _, rfl, _, _, rfl, rfl, _, rfl, ite2 (fun c2 => ?_) (fun c2 => ?_)⟩
        · have c2 : f < i := by have := of_decide_eq_true c2; omega
          refine ⟨_, rfl, .inl ⟨rfl, _, SqL.of (s1 _ _ hv1)⟩, _, rfl, _, rfl, (by show 2 ≤ sizeLine; decide), fun T hT => ?_⟩
          have s2 := same_new (o := .tup [.int (f : Int), .int ((i : Nat) : Int)]) hT
          refine ⟨r, _, _, rfl, rfl, s2 _ _ (s1 _ _ hv1), (by rw [paired_len hv2]; exact Nat.lt_of_le_of_lt (Nat.le_trans R.len (Nat.le_trans (Nat.le_of_lt hil) h12)) (by decide)), ?_⟩
          refine ⟨_, rfl, _, _, rfl, rfl, ?_⟩
          refine ⟨i + 1, rs ++ [(f, i)], _, _, rfl, same_upd ((s.trans s1).trans s2) hr0, SpAt.snoc (s2 _ _ (s1 _ _ hv1)) (Paired.mapP hP1 fun _ _ z => z.same s2) upd_same, R.lt_new c1 c2 (Nat.le_of_lt hil)⟩
        · have c2 : ¬ f < i := fun z => c2 (decide_eq_true (by omega))
          refine ⟨_, rfl, _, _, rfl, rfl, ?_⟩
          exact ⟨i + 1, rs, _, _, rfl, s.trans s1, ⟨vs, s1 _ _ hv1, hP1⟩, R.lt_old c1 c2⟩
      · have c1 : h ≤ l.getD i 0 := by rw [getD_of hx]; exact Nat.le_of_not_lt fun z => c1 (decide_eq_true (by omega))
        exact ⟨f, rs, _, _, rfl, s.trans s1, ⟨vs, s1 _ _ hv1, hP1⟩, R.ge c1⟩
    · rintro σ H' ⟨f, rs, v4, v5, rfl, s, ⟨vs, hv1, hv2⟩, R⟩
      rw [iN_len] at R
      have hla := s _ _ ha
      refine ⟨_, rfl, _, rfl, a, _, rfl, .inl (SqL.of hla), _, _, rfl, rfl, _, rfl, ite2 (fun c1 => ?_) (fun c1 => ?_)⟩
      · have c1 : f < l.length := by have := of_decide_eq_true c1; rw [iN_len] at this; omega
        refine ⟨_, rfl, .inl ⟨rfl, _, SqL.of hv1⟩, _, rfl, _, rfl, a, _, rfl, .inl (SqL.of hla), (by show 2 ≤ sizeLine; decide), fun T hT => ?_⟩
        have s2 := same_new (o := .tup [.int (f : Int), .int ((iN l).length : Int)]) hT
        refine ⟨r, _, _, rfl, rfl, s2 _ _ hv1, (by rw [paired_len hv2]; exact Nat.lt_of_le_of_lt (Nat.le_trans R.len h12) (by decide)), ?_⟩
        refine ⟨_, rfl, k _ r (same_upd (s.trans s2) hr0) ?_⟩
        rw [R.end_new h1 c1]
        exact SpAt.snoc (s2 _ _ hv1) (Paired.mapP hv2 fun _ _ z => z.same s2) (by rw [upd_same, iN_len])
      · have c1 : ¬ f < l.length := fun z => c1 (decide_eq_true (by rw [iN_len]; omega))
        refine ⟨_, rfl, k _ r s ?_⟩
        rw [R.end_old c1]
        exact ⟨vs, hv1, hv2⟩
theorem flat_len (l : List Nat) : ∀ i, i ≤ l.foldl max 0 → ((List.range i).flatMap fun h => Kqv1.runs l (h + 1)).length ≤ (Kqv1.planOf l).length := by
  intro i hi
  unfold Kqv1.planOf
  obtain ⟨d, hd⟩ := Nat.exists_eq_add_of_le hi
  rw [hd, List.range_add, List.flatMap_append, List.length_append]
  omega
theorem max_of {l : List Nat} {mx : Int} (h1 : mx ∈ l.map Int.ofNat) (h2 : ∀ y, y ∈ l.map Int.ofNat → y ≤ mx) : mx = (l.foldl max 0 : Nat) := by
  obtain ⟨x, hx, rfl⟩ := List.mem_map.mp h1
  have : l.foldl max 0 = x := max_unique hx fun y hy => by
    have := h2 _ (List.mem_map.mpr ⟨y, hy, rfl⟩)
    have e : ∀ z : Nat, Int.ofNat z = (z : Int) := fun _ => rfl
    rw [e, e] at this
    omega
  rw [this]
  rfl
theorem max12 {l : List Nat} (h : ∀ x ∈ l, x ≤ 12) : l.foldl max 0 ≤ 12 := by
  rcases (foldl_max l 0).2.2 with e | e
  · omega
  · exact h _ e
theorem ok_plan_spans (T : Txt K mg t) : FnOk P w K mg base CX0 2 t.f_plan_spans t.d_plan_spans ["lacking"] sp_plan_spans := by
  refine T.F_plan_spans.ok sc_plan_spans (fun vs H Q E h => ?_) (fun cdv A outer s H vs Q E hr h => ?_)
  · obtain ⟨_, _, rfl, _⟩ := h
    rfl
  · obtain ⟨a, l, rfl, ha, hne, h12, hx12, k⟩ := h
    have hu := hu_of hr
    refine ⟨_, (pss_cons (ps_set (i := 1) sc_plan_spans.nd rfl (Or.inl rfl) (pe_lst pa_nil)) (pss_cons (ps_for PassesOwn.never rfl (pi_range2 rfl T.n_range (pa_cons pe_int (pa_cons (pe_op op_add (pe_callB (cr_max rfl) rfl T.n_max PyProof.Rows.boot_max (pa_cons (pv 0) pa_nil)) pe_int) pa_nil))) (pg_name (i := 2) sc_plan_spans.nd rfl (Or.inl rfl)) (pss_one (ps_expr (pe_bm PySem.F.plainAttrs_list PySem.F.slot_list_extend PySem.F.type_list_extend mt_extend (pv 1) (pa_cons (pe_call (ok_runs_lacking T) (hr.mono (by decide)) rfl T.g_runs_lacking T.F_runs_lacking.kp T.b_runs_lacking .nil pass0 (pa_cons (pv 0) (pa_cons (pv 2) pa_nil))) pa_nil))))) (pss_one (ps_ret (pv 1))))), ?_⟩
    refine ⟨Nat.zero_le _, fun r hr0 => ?_⟩
    have s0 := same_new (o := .lst []) hr0
    have hpos : 0 < (l.map Int.ofNat).length := by
      cases l with
      | nil => exact absurd rfl hne
      | cons _ _ => simp
    have hsum : (Kqv1.planOf l).length ≤ 144 := by
      have := plan_len l
      have := sum_le l hx12
      have : l.length * 12 ≤ 12 * 12 := Nat.mul_le_mul_right 12 h12
      omega
    have hM := max12 hx12
    refine ⟨_, rfl, a, l.map Int.ofNat, rfl, SqL.of (s0 _ _ ha), hpos, fun mx hm1 hm2 => ?_⟩
    have em := max_of hm1 hm2
    subst em
    generalize hMM : l.foldl max 0 = M at *
    refine ⟨_, _, rfl, rfl, 1, (M : Int) + 1, rfl, ⟨by decide, by decide, by omega, by omega⟩, ?_⟩
    rw [show ((M : Int) + 1 - 1).toNat = M by omega]
    refine for_range (lo := 1) (n := M) (fun i σ H' => ∃ v2 : Option V, σ = [some (.ref a), some (.ref r), v2] ∧ Same H H' ∧ SpAt H' r ((List.range i).flatMap fun h => Kqv1.runs l (h + 1)))
      ⟨none, rfl, s0, ⟨_, upd_same, .nil⟩⟩ ?_ ?_
    · rintro i σ H' hi ⟨v2, rfl, s, ⟨vs, hv1, hv2⟩⟩
      refine ⟨_, rfl, .inl ⟨rfl, _, SqL.of hv1⟩, _, rfl, _, rfl, a, l, i + 1, (by show _ = [V.ref a, V.int ((i + 1 : Nat) : Int)]; rw [show ((i + 1 : Nat) : Int) = 1 + (i : Int) by omega]; rfl), s _ _ ha, by omega, h12, fun H2 q s2 ⟨us, hu1, hu2⟩ => ?_⟩
      have hlen : vs.length + us.length ≤ sizeLine := by
        have e : vs.length + us.length = ((List.range (i + 1)).flatMap fun h => Kqv1.runs l (h + 1)).length := by
          rw [paired_len hv2, paired_len hu2, List.range_succ, List.flatMap_append, List.length_append]; simp
        rw [e]
        exact Nat.le_trans (Nat.le_trans (flat_len l (i + 1) (by rw [hMM]; exact hi)) hsum) (by decide)
      refine ⟨r, q, _, _, rfl, rfl, s2 _ _ hv1, hu1, hlen, ?_⟩
      refine ⟨_, rfl, same_upd (s.trans s2) hr0, ?_⟩
      rw [List.range_succ, List.flatMap_append, show ([i] : List Nat).flatMap (fun h => Kqv1.runs l (h + 1)) = Kqv1.runs l (i + 1) by simp]
      exact SpAt.ext (s2 _ _ hv1) (Paired.mapP hv2 fun _ _ z => z.same s2) hu2
    · rintro σ H' ⟨v2, rfl, s, hS⟩
      refine ⟨_, rfl, k H' r s ?_⟩
      unfold Kqv1.planOf
      rw [hMM]
      exact hS
theorem getLast_snoc (l : List Nat) (x : Nat) : ((l ++ [x]).getLast?).getD 0 = x := by simp
theorem ok_fewest_spans (T : Txt K mg t) : FnOk P w K mg base CX0 1 t.f_fewest_spans t.d_fewest_spans ["lacking"] sp_fewest_spans := by
  refine T.F_fewest_spans.ok sc_fewest_spans (fun vs H Q E h => ?_) (fun cdv A outer s H vs Q E hr h => ?_)
  · obtain ⟨_, _, rfl, _⟩ := h
    rfl
  · obtain ⟨a, l, rfl, ha, k⟩ := h
    have hu := hu_of hr
    refine ⟨_, (pss_cons (ps_set (i := 1) sc_fewest_spans.nd rfl (Or.inl rfl) pe_int) (pss_cons (ps_set (i := 2) sc_fewest_spans.nd rfl (Or.inl rfl) pe_int) (pss_cons (ps_for PassesOwn.never rfl (pi_list (pv 0)) (pg_name (i := 3) sc_fewest_spans.nd rfl (Or.inl rfl)) (pss_cons (ps_aug (i := 1) sc_fewest_spans.nd rfl (Or.inl rfl) (pe_callB (call_max2 rfl) rfl T.n_max PyProof.Rows.boot_max (pa_cons (pe_op op_sub (pv 3) (pv 2)) (pa_cons pe_int pa_nil))) ip_add) (pss_one (ps_set (i := 2) sc_fewest_spans.nd rfl (Or.inl rfl) (pv 3))))) (pss_one (ps_ret (pv 1)))))), ?_⟩
    refine ⟨_, rfl, a, rfl, ⟨_, SqL.of ha⟩, for_list (K := K) (a := a) (xs := iN l) (fun i σ H' => ∃ v3 : Option V, σ = [some (.ref a), some (.int (Kqv1.begins 0 (l.take i) : Nat)), some (.int (((l.take i).getLast?).getD 0 : Nat)), v3] ∧ H' = H)
      ⟨none, rfl, rfl⟩ (fun i σ H' _ ⟨_, _, e⟩ => by rw [e]; exact SqL.of ha) ?_ ?_⟩
    · rintro i y σ H' hi ⟨v3, rfl, rfl⟩
      obtain ⟨x, hx, rfl⟩ := iN_inv hi
      refine ⟨_, rfl, _, rfl, _, rfl, _, _, rfl, rfl, _, _, rfl, _, _, rfl, rfl, _, rfl, some (.int (x : Int)), ?_, rfl⟩
      rw [take_snoc hx, begins_snoc, getLast_snoc]
      show [some (V.ref a), some (V.int _), some (V.int (x : Int)), some (V.int (x : Int))] = _
      congr 4
      dsimp only
      split <;> omega
    · rintro σ H' ⟨v3, rfl, rfl⟩
      rw [iN_len, List.take_length]
      exact ⟨_, rfl, k⟩
theorem ok_longest_run (T : Txt K mg t) : FnOk P w K mg base CX0 1 t.f_longest_run t.d_longest_run ["row"] sp_longest_run := by
  refine T.F_longest_run.ok sc_longest_run (fun vs H Q E h => ?_) (fun cdv A outer s H vs Q E hr h => ?_)
  · obtain ⟨_, _, rfl, _⟩ := h
    rfl
  · obtain ⟨a, l, rfl, ha, k⟩ := h
    have hu := hu_of hr
    refine ⟨_, (pss_cons (ps_set (i := 1) sc_longest_run.nd rfl (Or.inl rfl) pe_int) (pss_cons (ps_set (i := 2) sc_longest_run.nd rfl (Or.inl rfl) pe_int) (pss_cons (ps_for PassesOwn.never rfl (pi_enum rfl T.n_enumerate (pa_cons (pv 0) pa_nil)) (pg_tup rfl (pgs_cons (pg_name (i := 3) sc_longest_run.nd rfl (Or.inl rfl)) (pgs_cons (pg_name (i := 4) sc_longest_run.nd rfl (Or.inl rfl)) pgs_nil))) (pss_cons (ps_if (PW.pt (pw_and (pt_cmpR op_gt (pv 3) pe_int (nomark _)) (pw_and1 (pt_cmpR op_ne (pe_ix ix_list (pv 0) (pe_op op_sub (pv 3) pe_int) (fun _ _ => rfl)) (pv 4) (nomark _))))) (pss_one (ps_set (i := 2) sc_longest_run.nd rfl (Or.inl rfl) pe_int)) pss_nil) (pss_cons (ps_aug (i := 2) sc_longest_run.nd rfl (Or.inl rfl) pe_int ip_add) (pss_one (ps_set (i := 1) sc_longest_run.nd rfl (Or.inl rfl) (pe_callB (call_max2 rfl) rfl T.n_max PyProof.Rows.boot_max (pa_cons (pv 1) (pa_cons (pv 2) pa_nil)))))))) (pss_one (ps_ret (pv 1)))))), ?_⟩
    refine ⟨_, rfl, a, _, rfl, SqL.of ha, for_enum (K := K) (a := a) (xs := iN l) (fun i σ H' => ∃ (L run : Nat) (v3 v4 : Option V), σ = [some (.ref a), some (.int L), some (.int run), v3, v4] ∧ Same H H' ∧ AlInv l i L run)
      ⟨0, 0, none, none, rfl, Same.refl _, .start l⟩ (fun i σ H' _ ⟨_, _, _, _, _, s, _⟩ => SqL.of (s _ _ ha)) ?_ ?_⟩
    · rintro i y σ H' q hi hq ⟨L, run, v3, v4, rfl, s, A⟩
      obtain ⟨x, hx, rfl⟩ := iN_inv hi
      have s1 : Same H (upd H' q (.tup [.int (i : Nat), .int (x : Int)])) := s.trans (same_new hq)
      have hmax : ∀ a b : Nat, V.int (if (b : Int) > (a : Int) then (b : Int) else (a : Int)) = V.int ((max a b : Nat) : Int) := fun a b => by
        congr 1
        split <;> omega
      refine ⟨q, _, rfl, SqT.of upd_same, rfl, _, _, rfl, _, _, rfl, rfl, ?_⟩
      have fin : ∀ (run' : Nat), AlInv l (i + 1) (max L (run' + 1)) (run' + 1) → ∃ (L2 run2 : Nat) (v3 v4 : Option V), [some (V.ref a), some (V.int (if ((run' : Int) + 1) > (L : Int) then ((run' : Int) + 1) else (L : Int))), some (V.int ((run' : Int) + 1)), some (V.int ((i : Nat) : Int)), some (V.int (x : Int))] = [some (.ref a), some (.int L2), some (.int run2), v3, v4] ∧ Same H (upd H' q (.tup [.int (i : Nat), .int (x : Int)])) ∧ AlInv l (i + 1) L2 run2 := fun run' A' =>
        ⟨max L (run' + 1), run' + 1, _, _, by rw [show ((run' : Int) + 1) = ((run' + 1 : Nat) : Int) from rfl, hmax], s1, A'⟩
      refine ⟨_, rfl, _, _, rfl, rfl, _, rfl, ite2 (fun c1 => ?_) (fun c1 => ?_)⟩
      · have c1 : 0 < i := by have := of_decide_eq_true c1; omega
        have hpi : i - 1 < l.length := by have := (List.getElem?_eq_some_iff.mp hx).1; omega
        have hp : l[i - 1]? = some l[i - 1] := List.getElem?_eq_getElem hpi
        refine ⟨_, rfl, _, rfl, _, _, rfl, rfl, a, _, _, _, rfl, rfl, SqL.of (s1 _ _ ha), at_of (j := i - 1) (by omega) (iN_get hp), _, rfl, rfl, _, rfl, ite2 (fun c2 => ?_) (fun c2 => ?_)⟩
        · have hne : l[i - 1] ≠ x := fun z => by
            rw [z] at c2
            simp at c2
          refine ⟨_, rfl, _, _, rfl, rfl, _, rfl, _, rfl, _, _, rfl, ?_⟩
          exact fin 0 (A.other c1 hx hp hne)
        · have he : l[i - 1] = x := by
            by_cases z : l[i - 1] = x
            · exact z
            · exfalso
              apply c2
              rw [decide_eq_false (by intro w; injection w with w; omega)]
              rfl
          refine ⟨_, rfl, _, _, rfl, rfl, _, rfl, _, rfl, _, _, rfl, ?_⟩
          exact fin run (A.same c1 hx (by rw [hp, he]))
      · have c1 : i = 0 := by
          by_cases z : i = 0
          · exact z
          · exact absurd (decide_eq_true (by omega)) c1
        refine iteF ⟨_, rfl, _, _, rfl, rfl, _, rfl, _, rfl, _, _, rfl, ?_⟩
        subst c1
        exact fin run (A.first hx)
    · rintro σ H' ⟨L, run, v3, v4, rfl, s, A⟩
      rw [iN_len] at A
      rw [A.done] at k
      exact ⟨_, rfl, k H' s⟩
end
end Bm
end
section
set_option Elab.async false
set_option linter.all false
set_option maxRecDepth 100000
set_option maxHeartbeats 4000000
namespace Bm
open PySem PySem.Spec PyProof.Rows L2
open Kqv1 (Ply Mould)
section
variable {P : Program} {w : World} {K : PySem.W.Frag} {mg : Str → Option Value} {base : Heap} {t : Adr}
/-! all but p stays -/
def SB (p : Addr) (H H' : Hp) : Prop := ∀ b o, H b = some o → b ≠ p → H' b = some o
theorem SB.refl (p : Addr) (H : Hp) : SB p H H := fun _ _ h _ => h
theorem SB.put {p : Addr} {H H' : Hp} {o : HO} (s : SB p H H') : SB p H (upd H' p o) := fun b u h hb => by rw [upd_ne hb]; exact s b u h hb
theorem SB.new {p l : Addr} {H H' : Hp} {o : HO} (s : SB p H H') (hl : H' l = none) : SB p H (upd H' l o) := fun b u h hb => by
  have q := s b u h hb
  rw [upd_ne (ne_of_none q hl)]; exact q
theorem SB.free {p l : Addr} {H H' : Hp} {u : HO} (s : SB p H H') (hp : H' p = some u) (hl : H' l = none) : H l = none := by
  cases e : H l with
  | none => rfl
  | some o =>
    have := s l o e (fun z => by subst z; rw [hp] at hl; cases hl)
    rw [hl] at this; cases this
theorem at_upd {H : Hp} {a b : Addr} {o u : HO} (h : H b = some o) (hn : b ≠ a) : upd H a u b = some o := by rw [upd_ne hn]; exact h
theorem at_new {H : Hp} {a b : Addr} {o u : HO} (h : H b = some o) (hn : H a = none) : upd H a u b = some o := at_upd h (ne_of_none h hn)
theorem ok_init_Ply (T : Txt K mg t) : FnOk P w K mg base CX0 1 t.f_init_Ply t.d_init_Ply ["self", "first", "behind", "kind"] (sp_init_Ply t) := by
  refine T.F_init_Ply.ok sc_init_Ply (fun vs H Q E h => ?_) (fun cdv A outer s H vs Q E hr h => ?_)
  · obtain ⟨_, _, _, _, _, rfl, _⟩ := h
    rfl
  · obtain ⟨p, dx, a, b, k', rfl, hp, k⟩ := h
    have hu := hu_of hr
    refine ⟨_, (pss_cons (ps_fld (pv 0) (pv 1) rfl) (pss_cons (ps_fld (pv 0) (pv 2) rfl) (pss_one (ps_fld (pv 0) (pv 3) rfl)))), ?_⟩
    refine ⟨_, rfl, _, rfl, p, t.cP, dx, [], rfl, hp, T.clP, T.n_first, (by show 0 < 1000; decide), _, rfl, _, rfl, p, t.cP, dx, _, rfl, upd_same, T.clP, T.n_behind, (by show 1 < 1000; decide), _, rfl, _, rfl, p, t.cP, dx, _, rfl, upd_same, T.clP, T.n_kind, (by show 2 < 1000; decide), ?_⟩
    exact k _ ⟨dx, upd_same⟩ ((SB.refl p H).put.put.put)
theorem begin_fs {L E S' : Nat} {na pa sa : Addr} {fs : List (Str × V)} (h : fs = [] ∨ ∃ (L' E' : Nat) (na pa sa : Addr) (S : Nat), fs = mfs L' E' na pa sa S) :
    fs.length ≤ 6 ∧ putF "scrap" (.int S') (putF "stock" (.ref sa) (putF "plies" (.ref pa) (putF "need" (.ref na) (putF "most_ends" (.int E) (putF "long" (.int L) fs))))) = mfs L E na pa sa S' := by
  rcases h with rfl | ⟨_, _, _, _, _, _, rfl⟩
  · exact ⟨Nat.zero_le _, rfl⟩
  · exact ⟨Nat.le_refl _, rfl⟩
theorem len_put {f : Str} {v : V} {fs : List (Str × V)} {n : Nat} (h : fs.length ≤ n) : (putF f v fs).length ≤ n + 1 := Nat.le_trans (length_putF f v fs) (Nat.succ_le_succ h)
theorem lt1000 {n : Nat} (h : n ≤ 20) : n < 1000 := by omega
theorem stock0 : (List.replicate ((4 : Int)).toNat [V.int 0]).flatten = iN [0, 0, 0, 0] := rfl
theorem ok_begin (T : Txt K mg t) : FnOk P w K mg base CX0 1 t.f_begin t.d_begin ["self", "long", "most_ends", "need"] (sp_begin t) := by
  refine T.F_begin.ok sc_begin (fun vs H Q E h => ?_) (fun cdv A outer s H vs Q E hr h => ?_)
  · obtain ⟨_, _, _, _, _, _, _, rfl, _⟩ := h
    rfl
  · obtain ⟨p, n0, dx, fs, L, E, need, rfl, hp, hfs, hn0, k⟩ := h
    have hu := hu_of hr
    refine ⟨_, (pss_cons (ps_fld (pv 0) (pv 1) rfl) (pss_cons (ps_fld (pv 0) (pv 2) rfl) (pss_cons (ps_fld (pv 0) (pe_callTy call_list_of rfl T.n_list PyProof.Rows.boot_list (pa_cons (pv 3) pa_nil)) rfl) (pss_cons (ps_fld (pv 0) pe_dnewK rfl) (pss_cons (ps_fld (pv 0) (pe_op op_rep (pe_lst (pa_cons pe_int pa_nil)) (pe_gint rfl T.c_KINDS)) rfl) (pss_one (ps_fld (pv 0) pe_int rfl))))))), ?_⟩
    obtain ⟨h6, -⟩ := begin_fs (L := 0) (E := 0) (S' := 0) (na := 0) (pa := 0) (sa := 0) hfs
    have hn0p : n0 ≠ p := ne_of hn0 hp (by intro z; cases z)
    refine ⟨_, rfl, _, rfl, p, t.cM, dx, fs, rfl, hp, T.clM, T.n_long, lt1000 (by omega), _, rfl, _, rfl, p, t.cM, dx, _, rfl, upd_same, T.clM, T.n_most_ends, lt1000 (Nat.le_trans (len_put h6) (by decide)), ?_⟩
    have s2 := ((SB.refl p H).put (o := .ins t.cM dx (putF "long" (.int (L : Int)) fs))).put (o := .ins t.cM dx (putF "most_ends" (.int (E : Int)) (putF "long" (.int (L : Int)) fs)))
    refine ⟨_, rfl, n0, iN need, rfl, .inl (SqL.of (s2 _ _ hn0 hn0p)), fun na hna => ?_⟩
    have hna0 := s2.free upd_same hna
    have s3 := s2.new (o := .lst (iN need)) hna
    refine ⟨_, rfl, p, t.cM, dx, _, rfl, at_new upd_same hna, T.clM, T.n_need, lt1000 (Nat.le_trans (len_put (len_put h6)) (by decide)), fun pa hpa => ?_⟩
    have hpna : na ≠ p := (ne_of_none upd_same hna).symm
    have s4 := s3.put (o := .ins t.cM dx (putF "need" (.ref na) (putF "most_ends" (.int (E : Int)) (putF "long" (.int (L : Int)) fs))))
    have hpa0 := s4.free upd_same hpa
    have s5 := s4.new (o := .dK []) hpa
    have n4 : _ = some (HO.lst (iN need)) := at_upd (u := .ins t.cM dx (putF "need" (.ref na) (putF "most_ends" (.int (E : Int)) (putF "long" (.int (L : Int)) fs)))) (upd_same (H := upd (upd H p (.ins t.cM dx (putF "long" (.int (L : Int)) fs))) p (.ins t.cM dx (putF "most_ends" (.int (E : Int)) (putF "long" (.int (L : Int)) fs)))) (o := .lst (iN need))) hpna
    have n5 := at_new (u := .dK []) n4 hpa
    have hppa : pa ≠ p := (ne_of_none upd_same hpa).symm
    refine ⟨_, rfl, p, t.cM, dx, _, rfl, at_new upd_same hpa, T.clM, T.n_plies, lt1000 (Nat.le_trans (len_put (len_put (len_put h6))) (by decide)), ?_⟩
    have s6 := s5.put (o := .ins t.cM dx (putF "plies" (.ref pa) (putF "need" (.ref na) (putF "most_ends" (.int (E : Int)) (putF "long" (.int (L : Int)) fs)))))
    have n6 := at_upd (u := .ins t.cM dx (putF "plies" (.ref pa) (putF "need" (.ref na) (putF "most_ends" (.int (E : Int)) (putF "long" (.int (L : Int)) fs))))) n5 hpna
    have d6 := at_upd (u := .ins t.cM dx (putF "plies" (.ref pa) (putF "need" (.ref na) (putF "most_ends" (.int (E : Int)) (putF "long" (.int (L : Int)) fs))))) (upd_same (H := upd (upd (upd (upd H p (.ins t.cM dx (putF "long" (.int (L : Int)) fs))) p (.ins t.cM dx (putF "most_ends" (.int (E : Int)) (putF "long" (.int (L : Int)) fs)))) na (.lst (iN need))) p (.ins t.cM dx (putF "need" (.ref na) (putF "most_ends" (.int (E : Int)) (putF "long" (.int (L : Int)) fs))))) (o := .dK [])) hppa
    refine ⟨(by show 1 ≤ sizeLine; decide), fun l0 hl0 => ⟨l0, 4, _, rfl, rfl, upd_same, by decide, by decide, (by show 4 ≤ sizeLine; decide), fun sa hsa => ?_⟩⟩
    have s7 := s6.new (o := .lst [.int 0]) hl0
    have n7 := at_new (u := .lst [.int 0]) n6 hl0
    have d7 := at_new (u := .lst [.int 0]) d6 hl0
    have p7 := at_new (u := .lst [.int 0]) (upd_same (H := upd (upd (upd (upd (upd H p (.ins t.cM dx (putF "long" (.int (L : Int)) fs))) p (.ins t.cM dx (putF "most_ends" (.int (E : Int)) (putF "long" (.int (L : Int)) fs)))) na (.lst (iN need))) p (.ins t.cM dx (putF "need" (.ref na) (putF "most_ends" (.int (E : Int)) (putF "long" (.int (L : Int)) fs))))) pa (.dK [])) (a := p) (o := .ins t.cM dx (putF "plies" (.ref pa) (putF "need" (.ref na) (putF "most_ends" (.int (E : Int)) (putF "long" (.int (L : Int)) fs)))))) hl0
    have hsa0 := s7.free p7 hsa
    have hsp : sa ≠ p := (ne_of_none p7 hsa).symm
    have hns : na ≠ sa := ne_of_none n7 hsa
    have hda : pa ≠ sa := ne_of_none d7 hsa
    have s8 := s7.new (o := .lst (List.replicate ((4 : Int)).toNat [V.int 0]).flatten) hsa
    refine ⟨_, rfl, p, t.cM, dx, _, rfl, at_new p7 hsa, T.clM, T.n_stock, lt1000 (Nat.le_trans (len_put (len_put (len_put (len_put h6)))) (by decide)), _, rfl, p, t.cM, dx, _, rfl, upd_same, T.clM, T.n_scrap, lt1000 (Nat.le_trans (len_put (len_put (len_put (len_put (len_put h6))))) (by decide)), ?_⟩
    refine k _ na pa sa ⟨⟨dx, ?_⟩, ?_, ?_, ⟨[], ?_, fun e he => (by cases he), .refl _⟩, hns⟩ hna0 hpa0 hsa0 (s8.put.put)
    · rw [upd_same]
      exact congrArg (fun q => some (HO.ins t.cM dx q)) (begin_fs (S' := 0) hfs).2
    · exact at_upd (at_upd (at_upd n7 hns) hpna) hpna
    · exact at_upd (at_upd upd_same hsp) hsp
    · exact at_upd (at_upd (at_upd d7 hda) hppa) hppa
theorem ok_init_Mould (T : Txt K mg t) : FnOk P w K mg base CX0 2 t.f_init_Mould t.d_init_Mould ["self"] (sp_init_Mould t) := by
  refine T.F_init_Mould.ok sc_init_Mould (fun vs H Q E h => ?_) (fun cdv A outer s H vs Q E hr h => ?_)
  · obtain ⟨_, _, rfl, _⟩ := h
    rfl
  · obtain ⟨p, dx, rfl, hp, k⟩ := h
    have hu := hu_of hr
    refine ⟨_, (pss_one (ps_expr (pe_meth (pv 0) T.clM T.m_begin (ok_begin T) (hr.mono (by decide)) T.b_begin .nil pass0 (pa_cons pe_int (pa_cons pe_int (pa_cons (pe_lst pa_nil) pa_nil)))))), ?_⟩
    refine ⟨_, rfl, p, dx, _, rfl, hp, rfl, Nat.zero_le _, fun l hl => ⟨p, l, dx, [], 0, 0, [], rfl, at_new hp hl, .inl rfl, upd_same, fun H' na pa sa hM h1 h2 h3 fr => ?_⟩⟩
    have s := same_new (o := .lst []) hl
    exact k H' na pa sa hM (s.free h1) (s.free h2) (s.free h3) fun b o e hb => fr b o (s b o e) hb
theorem ok_station_count (T : Txt K mg t) : FnOk P w K mg base CX0 1 t.f_station_count t.d_station_count ["self"] (sp_station_count t) := by
  refine T.F_station_count.ok sc_station_count (fun vs H Q E h => ?_) (fun cdv A outer s H vs Q E hr h => ?_)
  · obtain ⟨_, _, _, _, _, rfl, _⟩ := h
    rfl
  · obtain ⟨p, na, pa, sa, m, rfl, hM, k⟩ := h
    have hu := hu_of hr
    refine ⟨_, (pss_one (ps_ret (pe_callB call_len_seq rfl T.n_len PySem.boot_len (pa_cons (pe_fld (pv 0) rfl) pa_nil)))), ?_⟩
    obtain ⟨dx, hp⟩ := hM.ins
    exact ⟨_, rfl, p, t.cM, dx, _, _, rfl, hp, T.clM, T.n_need, mf_need, na, _, rfl, .inl (SqL.of hM.need), (show Q (.int ((iN m.need).length : Int)) H by rw [iN_len]; exact k)⟩
theorem dec_cast (a b : Nat) : decide ((a : Int) < (b : Int)) = decide (a < b) := by
  by_cases h : a < b
  · rw [decide_eq_true h, decide_eq_true (by omega)]
  · rw [decide_eq_false h, decide_eq_false (by omega)]
theorem ok_is_begun (T : Txt K mg t) : FnOk P w K mg base CX0 2 t.f_is_begun t.d_is_begun ["self"] (sp_is_begun t) := by
  refine T.F_is_begun.ok sc_is_begun (fun vs H Q E h => ?_) (fun cdv A outer s H vs Q E hr h => ?_)
  · obtain ⟨_, _, _, _, _, rfl, _⟩ := h
    rfl
  · obtain ⟨p, na, pa, sa, m, rfl, hM, k⟩ := h
    have hu := hu_of hr
    refine ⟨_, (pss_one (ps_ret (pe_cmpR op_gt (pe_meth0 (pv 0) T.clM T.m_station_count (ok_station_count T) (hr.mono (by decide)) T.b_station_count .nil pass0) pe_int (nomark _)))), ?_⟩
    obtain ⟨dx, hp⟩ := hM.ins
    refine ⟨_, rfl, p, dx, _, rfl, hp, mf_no (by decide), p, na, pa, sa, m, rfl, hM, _, _, rfl, rfl, ?_⟩
    have e : decide ((0 : Int) < (Kqv1.stations m : Int)) = decide (0 < Kqv1.stations m) := dec_cast 0 _
    show Q (.bl (decide ((0 : Int) < (Kqv1.stations m : Int)))) H
    rw [e]
    exact k
theorem ok_has_station (T : Txt K mg t) : FnOk P w K mg base CX0 2 t.f_has_station t.d_has_station ["self", "station"] (sp_has_station t) := by
  refine T.F_has_station.ok sc_has_station (fun vs H Q E h => ?_) (fun cdv A outer s H vs Q E hr h => ?_)
  · obtain ⟨_, _, _, _, _, _, rfl, _⟩ := h
    rfl
  · obtain ⟨p, na, pa, sa, m, i, rfl, hM, k⟩ := h
    have hu := hu_of hr
    refine ⟨_, (pss_one (ps_ret (pe_cmpR op_lt (pv 1) (pe_meth0 (pv 0) T.clM T.m_station_count (ok_station_count T) (hr.mono (by decide)) T.b_station_count .nil pass0) (nomark _)))), ?_⟩
    obtain ⟨dx, hp⟩ := hM.ins
    refine ⟨_, rfl, _, rfl, p, dx, _, rfl, hp, mf_no (by decide), p, na, pa, sa, m, rfl, hM, _, _, rfl, rfl, ?_⟩
    show Q (.bl (decide ((i : Int) < (Kqv1.stations m : Int)))) H
    rw [dec_cast]
    exact k
end
end Bm
end
section
set_option Elab.async false
set_option linter.all false
set_option maxRecDepth 100000
set_option maxHeartbeats 4000000
namespace Bm
open PySem PySem.Spec PyProof.Rows L2
open Kqv1 (Ply Mould)
section
variable {P : Program} {w : World} {K : PySem.W.Frag} {mg : Str → Option Value} {base : Heap} {t : Adr}
theorem filt_snoc {l : List (Nat × Ply)} {i j : Nat} {e : Nat × Ply} (h : l[j]? = some e) :
    (((l.take (j + 1)).filter fun e => Kqv1.covers e.2 i).map Prod.fst) = (((l.take j).filter fun e => Kqv1.covers e.2 i).map Prod.fst) ++ (if Kqv1.covers e.2 i = true then [e.1] else []) := by
  rw [take_snoc h, List.filter_append, List.map_append, List.filter_cons]
  by_cases q : Kqv1.covers e.2 i = true
  · rw [if_pos q, if_pos q]; rfl
  · rw [if_neg q, if_neg q]; rfl
theorem filt_len {l : List (Nat × Ply)} {i j : Nat} : (iN (((l.take j).filter fun e => Kqv1.covers e.2 i).map Prod.fst)).length ≤ l.length := by
  rw [iN_len, List.length_map]
  refine Nat.le_trans (List.length_filter_le _ _) ?_
  rw [List.length_take]
  omega
theorem iN_snoc (l : List Nat) (x : Nat) : iN (l ++ [x]) = iN l ++ [V.int (x : Int)] := by simp [iN]
theorem ent_there_len (m : Mould) : (ent 0 m.plies).length = (Kqv1.there m).length := by rw [there_ent, List.length_map]
theorem small64' {n : Nat} (h : n < 64) : n < sizeLine := Nat.lt_of_lt_of_le h (by decide)
theorem ok_stack_at (T : Txt K mg t) : FnOk P w K mg base CX0 1 t.f_stack_at t.d_stack_at ["self", "station"] (sp_stack_at t) := by
  refine T.F_stack_at.ok sc_stack_at (fun vs H Q E h => ?_) (fun cdv A outer s H vs Q E hr h => ?_)
  · obtain ⟨_, _, _, _, _, _, rfl, _⟩ := h
    rfl
  · obtain ⟨p, na, pa, sa, m, i, rfl, hM, h64, k⟩ := h
    have hu := hu_of hr
    refine ⟨_, (pss_cons (ps_set (i := 2) sc_stack_at.nd rfl (Or.inl rfl) (pe_callB (cr_sortedD rfl) rfl T.n_sorted PyProof.Rows.boot_sorted (pa_cons (pe_fld (pv 0) rfl) pa_nil))) (pss_one (ps_ret (pe_lc rfl sc_stack_at.nd (pi_list (pv 2)) (own := [("number", 3)]) (blkOk_by (by with_unfolding_all rfl)) (fun _ _ _ _ _ => pg_name (i := 3) sc_stack_at.nd rfl (Or.inl rfl)) (fun _ _ _ _ _ => (pts_one (pt_chain op_le op_lt (pe_fldK (K := K) rfl (pe_dget (by exact hu) (pe_fldK (K := K) rfl (pv 0) rfl) (pv 3) (fun _ _ => rfl)) rfl) (pv 1) (pe_fldK (K := K) rfl (pe_dget (by exact hu) (pe_fldK (K := K) rfl (pv 0) rfl) (pv 3) (fun _ _ => rfl)) rfl)))) (fun _ _ _ _ _ => (pv 3)))))), ?_⟩
    obtain ⟨dx, hp⟩ := hM.ins
    obtain ⟨es, hd, hpl, hperm⟩ := hM.plies
    refine ⟨_, rfl, p, t.cM, dx, _, _, rfl, hp, T.clM, T.n_plies, mf_plies, pa, kvsOf es, es.map fun e => (e.1 : Int), rfl, hd, kvs_keys, (by rw [List.length_map, es_len hperm]; exact h64), fun ns q h1 h2 hq => ?_⟩
    have ens := sorted_eq hperm h1 h2
    subst ens
    have s0 := same_new (o := .lst ((((ent 0 m.plies).map Prod.fst).map Int.ofNat).map V.int)) hq
    refine ⟨_, rfl, q, rfl, ⟨_, SqL.of upd_same⟩, fun D hD => ?_⟩
    have hqD : q ≠ D := ne_of_none upd_same hD
    have s1 := s0.trans (same_new (o := .lst []) hD)
    have hD0 : H D = none := s0.free hD
    refine lc_list (K := K) (a := q) (xs := ((((ent 0 m.plies).map Prod.fst).map Int.ofNat).map V.int)) (fun j H' => Same H H' ∧ H' q = some (.lst ((((ent 0 m.plies).map Prod.fst).map Int.ofNat).map V.int)) ∧ H' D = some (.lst (iN ((((ent 0 m.plies).take j).filter fun e => Kqv1.covers e.2 i).map Prod.fst))))
      ⟨s1, at_upd upd_same hqD, upd_same⟩ (fun j H' _ h => SqL.of h.2.1) ?_ ?_
    · rintro j y H' hy ⟨s, hq', hD'⟩
      obtain ⟨n, hn, rfl⟩ := iN_inv hy
      rw [List.getElem?_map] at hn
      obtain ⟨e, he, en⟩ := Option.map_eq_some_iff.mp hn
      obtain ⟨n', x⟩ := e
      have en : n' = n := en
      subst en
      have hx := ent_mem0.mp (List.mem_of_getElem? he)
      obtain ⟨a, ha, hv⟩ := es_some hperm hx
      obtain ⟨da, hpa⟩ : PlyAt t H' a x := (hpl _ ha).same s
      have hg : DGet H' pa (.int (n' : Int)) (some (.ref a)) := hv ▸ DGet.k (k := Sum.inl (n' : Int)) (s _ _ hd)
      refine ⟨rfl, _, rfl, p, t.cM, dx, _, _, rfl, s _ _ hp, T.clM, T.n_plies, mf_plies, _, rfl, pa, _, rfl, hg, a, t.cP, da, _, _, rfl, hpa, T.clP, T.n_first, pf_first, _, rfl, _, _, rfl, rfl, _, rfl, ite2 (fun c1 => ?_) (fun c1 => ?_)⟩
      · have c1 : x.from_ ≤ i := by have := of_decide_eq_true c1; omega
        refine ⟨_, rfl, p, t.cM, dx, _, _, rfl, s _ _ hp, T.clM, T.n_plies, mf_plies, _, rfl, pa, _, rfl, hg, a, t.cP, da, _, _, rfl, hpa, T.clP, T.n_behind, pf_behind, _, _, rfl, rfl, _, rfl, ite2 (fun c2 => ?_) (fun c2 => ?_)⟩
        · have c2 : i < x.to := by have := of_decide_eq_true c2; omega
          refine ⟨_, rfl, _, hD', small64' (Nat.lt_of_le_of_lt filt_len (by rw [ent_there_len]; exact h64)), same_upd s hD0, at_upd hq' hqD, ?_⟩
          rw [upd_same, filt_snoc he, if_pos (by simp [Kqv1.covers, c1, c2]), iN_snoc]
        · have c2 : ¬ i < x.to := fun z => c2 (decide_eq_true (by omega))
          refine ⟨s, hq', ?_⟩
          rw [hD', filt_snoc he, if_neg (by simp [Kqv1.covers]; omega), List.append_nil]
      · have c1 : ¬ x.from_ ≤ i := fun z => c1 (decide_eq_true (by omega))
        refine ⟨false, rfl, iteF ⟨s, hq', ?_⟩⟩
        rw [hD', filt_snoc he, if_neg (by simp [Kqv1.covers]; omega), List.append_nil]
    · rintro H' ⟨s, hq', hD'⟩
      rw [List.length_map, List.length_map, List.length_map, List.take_length, ← stack_ent] at hD'
      exact k H' D s hD'
theorem stack_mem {m : Mould} {i n : Nat} (h : n ∈ Kqv1.stack m i) : ∃ x, m.plies.getD n none = some x ∧ Kqv1.kindOf m n = x.kind := by
  rw [stack_ent] at h
  obtain ⟨e, he, rfl⟩ := List.mem_map.mp h
  have he := (List.mem_filter.mp he).1
  exact ⟨e.2, ent_mem0.mp he, kindOf_ent he⟩
theorem stack_len (m : Mould) (i : Nat) : (Kqv1.stack m i).length ≤ (Kqv1.there m).length := by
  rw [← layers_stack]
  exact List.length_filter_le _ _
theorem ok_kinds_at (T : Txt K mg t) : FnOk P w K mg base CX0 2 t.f_kinds_at t.d_kinds_at ["self", "station"] (sp_kinds_at t) := by
  refine T.F_kinds_at.ok sc_kinds_at (fun vs H Q E h => ?_) (fun cdv A outer s H vs Q E hr h => ?_)
  · obtain ⟨_, _, _, _, _, _, rfl, _⟩ := h
    rfl
  · obtain ⟨p, na, pa, sa, m, i, rfl, hM, h64, k⟩ := h
    have hu := hu_of hr
    refine ⟨_, (pss_one (ps_ret (pe_lc rfl sc_kinds_at.nd (pi_list (pe_meth (pv 0) T.clM T.m_stack_at (ok_stack_at T) (hr.mono (by decide)) T.b_stack_at .nil pass0 (pa_cons (pv 1) pa_nil))) (own := [("number", 2)]) (blkOk_by (by with_unfolding_all rfl)) (fun _ _ _ _ _ => pg_name (i := 2) sc_kinds_at.nd rfl (Or.inl rfl)) (fun _ _ _ _ _ => pts_nil) (fun _ _ _ _ _ => (pe_fldK (K := K) rfl (pe_dget (by exact hu) (pe_fldK (K := K) rfl (pv 0) rfl) (pv 2) (fun _ _ => rfl)) rfl))))), ?_⟩
    obtain ⟨dx, hp⟩ := hM.ins
    obtain ⟨es, hd, hpl, hperm⟩ := hM.plies
    refine ⟨_, rfl, p, dx, _, rfl, hp, mf_no (by decide), _, rfl, p, na, pa, sa, m, i, rfl, hM, h64, fun H1 q s1 hq => ⟨q, rfl, ⟨_, SqL.of hq⟩, fun D hD => ?_⟩⟩
    have hqD : q ≠ D := ne_of_none hq hD
    have hD0 : H D = none := s1.free hD
    refine lc_list (K := K) (a := q) (xs := iN (Kqv1.stack m i)) (fun j H' => Same H H' ∧ H' q = some (.lst (iN (Kqv1.stack m i))) ∧ H' D = some (.lst (iN (((Kqv1.stack m i).take j).map (Kqv1.kindOf m)))))
      ⟨s1.trans (same_new hD), at_upd hq hqD, upd_same⟩ (fun j H' _ h => SqL.of h.2.1) ?_ ?_
    · rintro j y H' hy ⟨s, hq', hD'⟩
      obtain ⟨n, hn, rfl⟩ := iN_inv hy
      obtain ⟨x, hx, hk⟩ := stack_mem (List.mem_of_getElem? hn)
      obtain ⟨a, ha, hv⟩ := es_some hperm hx
      obtain ⟨da, hpa⟩ : PlyAt t H' a x := (hpl _ ha).same s
      have hg : DGet H' pa (.int (n : Int)) (some (.ref a)) := hv ▸ DGet.k (k := Sum.inl (n : Int)) (s _ _ hd)
      refine ⟨rfl, _, rfl, p, t.cM, dx, _, _, rfl, s _ _ hp, T.clM, T.n_plies, mf_plies, _, rfl, pa, _, rfl, hg, a, t.cP, da, _, _, rfl, hpa, T.clP, T.n_kind, pf_kind, _, hD', ?_, same_upd s hD0, at_upd hq' hqD, ?_⟩
      · rw [iN_len, List.length_map, List.length_take]
        exact small64' (Nat.lt_of_le_of_lt (Nat.min_le_right _ _) (Nat.lt_of_le_of_lt (stack_len m i) h64))
      · rw [upd_same, take_snoc hn, List.map_append, List.map_cons, List.map_nil, hk, iN_snoc]
    · rintro H' ⟨s, hq', hD'⟩
      rw [iN_len, List.take_length] at hD'
      exact k H' D s hD'
theorem ok_alike_at (T : Txt K mg t) : FnOk P w K mg base CX0 3 t.f_alike_at t.d_alike_at ["self", "station"] (sp_alike_at t) := by
  refine T.F_alike_at.ok sc_alike_at (fun vs H Q E h => ?_) (fun cdv A outer s H vs Q E hr h => ?_)
  · obtain ⟨_, _, _, _, _, _, rfl, _⟩ := h
    rfl
  · obtain ⟨p, na, pa, sa, m, i, rfl, hM, h64, k⟩ := h
    have hu := hu_of hr
    refine ⟨_, (pss_one (ps_ret (pe_call (ok_longest_run T) (hr.mono (by decide)) rfl T.g_longest_run T.F_longest_run.kp T.b_longest_run .nil pass0 (pa_cons (pe_meth (pv 0) T.clM T.m_kinds_at (ok_kinds_at T) (hr.mono (by decide)) T.b_kinds_at .nil pass0 (pa_cons (pv 1) pa_nil)) pa_nil)))), ?_⟩
    obtain ⟨dx, hp⟩ := hM.ins
    exact ⟨_, rfl, p, dx, _, rfl, hp, mf_no (by decide), _, rfl, p, na, pa, sa, m, i, rfl, hM, h64, fun H1 q s1 hq => ⟨q, _, rfl, hq, fun H2 s2 => k H2 (s1.trans s2)⟩⟩
theorem ok_layers_at (T : Txt K mg t) : FnOk P w K mg base CX0 2 t.f_layers_at t.d_layers_at ["self", "station"] (sp_layers_at t) := by
  refine T.F_layers_at.ok sc_layers_at (fun vs H Q E h => ?_) (fun cdv A outer s H vs Q E hr h => ?_)
  · obtain ⟨_, _, _, _, _, _, rfl, _⟩ := h
    rfl
  · obtain ⟨p, na, pa, sa, m, i, rfl, hM, h64, k⟩ := h
    have hu := hu_of hr
    refine ⟨_, (pss_one (ps_ret (pe_callB call_len_seq rfl T.n_len PySem.boot_len (pa_cons (pe_meth (pv 0) T.clM T.m_stack_at (ok_stack_at T) (hr.mono (by decide)) T.b_stack_at .nil pass0 (pa_cons (pv 1) pa_nil)) pa_nil)))), ?_⟩
    obtain ⟨dx, hp⟩ := hM.ins
    refine ⟨_, rfl, p, dx, _, rfl, hp, mf_no (by decide), _, rfl, p, na, pa, sa, m, i, rfl, hM, h64, fun H1 q s1 hq => ⟨q, _, rfl, .inl (SqL.of hq), ?_⟩⟩
    show Q (.int ((iN (Kqv1.stack m i)).length : Int)) H1
    rw [iN_len, ← layers_stack]
    exact k H1 s1
theorem need_get {m : Mould} {i : Nat} (h : i < Kqv1.stations m) : m.need[i]? = some (Kqv1.needs m i) := by
  unfold Kqv1.needs
  rw [List.getD_eq_getElem?_getD, List.getElem?_eq_getElem h]
  rfl
theorem Fit.l64 {m : Mould} (F : Fit m) : (Kqv1.there m).length < 64 := Nat.lt_of_le_of_lt F.pl (by decide)
theorem ok_missing_at (T : Txt K mg t) : FnOk P w K mg base CX0 3 t.f_missing_at t.d_missing_at ["self", "station"] (sp_missing_at t) := by
  refine T.F_missing_at.ok sc_missing_at (fun vs H Q E h => ?_) (fun cdv A outer s H vs Q E hr h => ?_)
  · obtain ⟨_, _, _, _, _, _, rfl, _⟩ := h
    rfl
  · obtain ⟨p, na, pa, sa, m, i, rfl, hM, hF, hi, k⟩ := h
    have hu := hu_of hr
    refine ⟨_, (pss_one (ps_ret (pe_op op_sub (pe_ix ix_list (pe_fld (pv 0) rfl) (pv 1) (fun _ _ => rfl)) (pe_meth (pv 0) T.clM T.m_layers_at (ok_layers_at T) (hr.mono (by decide)) T.b_layers_at .nil pass0 (pa_cons (pv 1) pa_nil))))), ?_⟩
    obtain ⟨dx, hp⟩ := hM.ins
    refine ⟨_, rfl, p, t.cM, dx, _, _, rfl, hp, T.clM, T.n_need, mf_need, _, rfl, na, _, _, _, rfl, rfl, SqL.of hM.need, atI_nat (iN_get (need_get hi)), _, rfl, p, dx, _, rfl, hp, mf_no (by decide), _, rfl, p, na, pa, sa, m, i, rfl, hM, hF.l64, fun H1 s1 => ⟨_, _, rfl, rfl, ?_⟩⟩
    have e : ((Kqv1.needs m i : Nat) : Int) - ((Kqv1.layers m i : Nat) : Int) = ((Kqv1.missing m i : Nat) : Int) := by
      have := hF.ly i
      unfold Kqv1.missing
      omega
    show Q (.int (((Kqv1.needs m i : Nat) : Int) - ((Kqv1.layers m i : Nat) : Int))) H1
    rw [e]
    exact k H1 s1
theorem ok_lacking (T : Txt K mg t) : FnOk P w K mg base CX0 4 t.f_lacking t.d_lacking ["self"] (sp_lacking t) := by
  refine T.F_lacking.ok sc_lacking (fun vs H Q E h => ?_) (fun cdv A outer s H vs Q E hr h => ?_)
  · obtain ⟨_, _, _, _, _, rfl, _⟩ := h
    rfl
  · obtain ⟨p, na, pa, sa, m, rfl, hM, hF, k⟩ := h
    have hu := hu_of hr
    refine ⟨_, (pss_one (ps_ret (pe_lc rfl sc_lacking.nd (pi_range1 rfl T.n_range (pa_cons (pe_meth0 (pv 0) T.clM T.m_station_count (ok_station_count T) (hr.mono (by decide)) T.b_station_count .nil pass0) pa_nil)) (own := [("station", 1)]) (blkOk_by (by with_unfolding_all rfl)) (fun _ _ _ _ _ => pg_name (i := 1) sc_lacking.nd rfl (Or.inl rfl)) (fun _ _ _ _ _ => pts_nil) (fun _ _ _ _ _ => (pe_meth (pv 0) T.clM T.m_missing_at (ok_missing_at T) (hr.mono (by decide)) T.b_missing_at .nil pass0 (pa_cons (pv 1) pa_nil)))))), ?_⟩
    obtain ⟨dx, hp⟩ := hM.ins
    have h12 : Kqv1.stations m ≤ 12 := hF.sl
    refine ⟨_, rfl, p, dx, _, rfl, hp, mf_no (by decide), p, na, pa, sa, m, rfl, hM, (Kqv1.stations m : Int), rfl, by omega, by omega, fun D hD => ?_⟩
    rw [Int.toNat_natCast]
    refine lc_range (lo := 0) (n := Kqv1.stations m) (fun j H' => Same H H' ∧ H' D = some (.lst (iN ((List.range j).map (Kqv1.missing m)))))
      ⟨same_new hD, upd_same⟩ ?_ ?_
    · rintro j H' hj ⟨s, hD'⟩
      refine ⟨rfl, _, rfl, p, dx, _, rfl, s _ _ hp, mf_no (by decide), _, rfl, p, na, pa, sa, m, j, (by show [V.ref p, V.int (0 + (j : Int))] = _; rw [Int.zero_add]), hM.same s, hF, hj, fun H2 s2 => ⟨_, s2 _ _ hD', ?_, same_upd (s.trans s2) hD, ?_⟩⟩
      · rw [iN_len, List.length_map, List.length_range]
        exact small64' (by omega)
      · rw [upd_same, List.range_succ, List.map_append, List.map_cons, List.map_nil, iN_snoc]
    · rintro H' ⟨s, hD'⟩
      exact k H' D s hD'
theorem lacks_mem {m : Mould} (F : Fit m) : ∀ x ∈ Kqv1.lacks m, x ≤ 12 := fun x hx => by
  obtain ⟨i, hi, rfl⟩ := List.mem_map.mp hx
  have h := need_get (List.mem_range.mp hi)
  have := F.nd _ (List.mem_of_getElem? h)
  unfold Kqv1.missing
  omega
theorem lacks_ne {m : Mould} (F : Fit m) : Kqv1.lacks m ≠ [] := fun z => by
  have := congrArg List.length z
  rw [lacks_len] at this
  exact F.st (List.length_eq_zero_iff.mp this)
theorem plan_small {m : Mould} (F : Fit m) : (Kqv1.plan m).length ≤ 144 := by
  have h1 := plan_len (Kqv1.lacks m)
  have h2 := sum_le (Kqv1.lacks m) (lacks_mem F)
  rw [lacks_len] at h2
  have h3 : Kqv1.stations m * 12 ≤ 12 * 12 := Nat.mul_le_mul_right 12 F.sl
  show (Kqv1.planOf (Kqv1.lacks m)).length ≤ 144
  omega
theorem plan_ok (m : Mould) : ∀ q ∈ Kqv1.plan m, q.1 < q.2 ∧ q.2 ≤ Kqv1.stations m := fun q hq => by
  have := plan_val (Kqv1.lacks m) q hq
  rw [lacks_len] at this
  exact this
theorem ok_planned (T : Txt K mg t) : FnOk P w K mg base CX0 5 t.f_planned t.d_planned ["self"] (sp_planned t) := by
  refine T.F_planned.ok sc_planned (fun vs H Q E h => ?_) (fun cdv A outer s H vs Q E hr h => ?_)
  · obtain ⟨_, _, _, _, _, rfl, _⟩ := h
    rfl
  · obtain ⟨p, na, pa, sa, m, rfl, hM, hF, k⟩ := h
    have hu := hu_of hr
    refine ⟨_, (pss_one (ps_ret (pe_call (ok_plan_spans T) (hr.mono (by decide)) rfl T.g_plan_spans T.F_plan_spans.kp T.b_plan_spans .nil pass0 (pa_cons (pe_meth0 (pv 0) T.clM T.m_lacking (ok_lacking T) (hr.mono (by decide)) T.b_lacking .nil pass0) pa_nil)))), ?_⟩
    obtain ⟨dx, hp⟩ := hM.ins
    exact ⟨_, rfl, p, dx, _, rfl, hp, mf_no (by decide), p, na, pa, sa, m, rfl, hM, hF, fun H1 l s1 hl => ⟨l, _, rfl, hl, lacks_ne hF, (by rw [lacks_len]; exact hF.sl), lacks_mem hF, fun H2 r s2 hr => k H2 r (s1.trans s2) hr⟩⟩
theorem ok_planned_fabric (T : Txt K mg t) : FnOk P w K mg base CX0 5 t.f_planned_fabric t.d_planned_fabric ["self"] (sp_planned_fabric t) := by
  refine T.F_planned_fabric.ok sc_planned_fabric (fun vs H Q E h => ?_) (fun cdv A outer s H vs Q E hr h => ?_)
  · obtain ⟨_, _, _, _, _, rfl, _⟩ := h
    rfl
  · obtain ⟨p, na, pa, sa, m, rfl, hM, hF, k⟩ := h
    have hu := hu_of hr
    refine ⟨_, (pss_one (ps_ret (pe_op op_mul (pe_callB (cr_sum rfl) rfl T.n_sum PyProof.Rows.boot_sum (pa_cons (pe_meth0 (pv 0) T.clM T.m_lacking (ok_lacking T) (hr.mono (by decide)) T.b_lacking .nil pass0) pa_nil)) (pe_fld (pv 0) rfl)))), ?_⟩
    obtain ⟨dx, hp⟩ := hM.ins
    have hlo := hF.lo
    refine ⟨_, rfl, p, dx, _, rfl, hp, mf_no (by decide), p, na, pa, sa, m, rfl, hM, hF, fun H1 l s1 hl => ⟨l, _, rfl, SqL.of hl, _, rfl, p, t.cM, dx, _, _, rfl, s1 _ _ hp, T.clM, T.n_long, mf_long, _, _, rfl, rfl, .inr ⟨by omega, by omega⟩, ?_⟩⟩
    show Q (.int (((Kqv1.lacks m).map Int.ofNat).sum * (m.long : Int))) H1
    rw [iN_sum, show ((Kqv1.sum (Kqv1.lacks m) : Nat) : Int) * (m.long : Int) = ((Kqv1.sum (Kqv1.lacks m) * m.long : Nat) : Int) by rw [Int.natCast_mul], ← fabric_eq]
    exact k H1 s1
end
end Bm
end
section
set_option Elab.async false
set_option linter.all false
set_option maxRecDepth 100000
set_option maxHeartbeats 4000000
namespace Bm
open PySem PySem.Spec PyProof.Rows L2
open Kqv1 (Ply Mould)
section
variable {P : Program} {w : World} {K : PySem.W.Frag} {mg : Str → Option Value} {base : Heap} {t : Adr}
theorem lock_same {H H' : Hp} {d : Addr} {od : Obj} {u : HO} (hd : H d = some u) (s : Same (upd H d (.frz od u)) H') : Same H (upd H' d u) := fun b o e => by
  by_cases hb : b = d
  · subst hb
    rw [hd] at e
    rw [upd_same]
    exact e
  · rw [upd_ne hb]
    exact s b o (by rw [upd_ne hb]; exact e)
theorem SpAt.put {H : Hp} {d D : Addr} {kvs : List (Key × V)} {o : Obj} {sp : List (Nat × Nat)} (hd : H d = some (.frz o (.dK kvs))) (h : SpAt H D sp) : SpAt (upd H d (.dK kvs)) D sp := by
  obtain ⟨vs, h1, h2⟩ := h
  refine ⟨vs, at_upd h1 (ne_of h1 hd (by intro z; cases z)), Paired.mapP h2 fun v p z => ?_⟩
  obtain ⟨q, e, hq⟩ := z
  exact ⟨q, e, at_upd hq (ne_of hq hd (by intro z; cases z))⟩
def spans (es : Es) : List (Nat × Nat) := es.map fun e => (e.2.2.from_, e.2.2.to)
theorem spans_perm {es : Es} {m : Mould} (h : (plain es).Perm (ent 0 m.plies)) : (spans es).Perm (pairs (Kqv1.there m)) := by
  have := (es_there h).map fun p => (p.from_, p.to)
  rw [List.map_map] at this
  exact this
theorem kvs_get {es : Es} {j : Nat} {k : Key} {x : V} (h : (kvsOf es)[j]? = some (k, x)) : ∃ e, es[j]? = some e ∧ x = .ref e.2.1 := by
  unfold kvsOf at h
  rw [List.getElem?_map] at h
  obtain ⟨e, he, h⟩ := Option.map_eq_some_iff.mp h
  exact ⟨e, he, (congrArg Prod.snd h).symm⟩
theorem ok_ends_with (T : Txt K mg t) : FnOk P w K mg base CX0 2 t.f_ends_with t.d_ends_with ["self", "more_spans"] (sp_ends_with t) := by
  refine T.F_ends_with.ok sc_ends_with (fun vs H Q E h => ?_) (fun cdv A outer s H vs Q E hr h => ?_)
  · obtain ⟨_, _, _, _, _, _, _, rfl, _⟩ := h
    rfl
  · obtain ⟨p, na, pa, sa, l, m, sp, rfl, hM, hF, hS, hv, hlen, k⟩ := h
    have hu := hu_of hr
    refine ⟨_, (pss_cons (ps_lock (ps_setLc (i := 2) rfl sc_ends_with.nd rfl rfl (sw_true rfl rfl rfl (by decide +kernel)) (pi_values (pe_fld (pv 0) rfl)) (own := [("ply", 3)]) (blkOk_by (by with_unfolding_all rfl)) (fun _ _ _ _ _ => pg_name (i := 3) sc_ends_with.nd rfl (Or.inl rfl)) (fun _ _ _ _ _ => pts_nil) (fun _ _ _ _ _ => (pe_tup (pa_cons (pe_fldK (K := K) rfl (pv 3) rfl) (pa_cons (pe_fldK (K := K) rfl (pv 3) rfl) pa_nil)))))) (pss_one (ps_ret (pe_call (ok_count_ends T) (hr.mono (by decide)) rfl T.g_count_ends T.F_count_ends.kp T.b_count_ends .nil pass0 (pa_cons (pe_op op_cat (pv 2) (pv 1)) (pa_cons (pe_meth0 (pv 0) T.clM T.m_station_count (ok_station_count T) (hr.mono (by decide)) T.b_station_count .nil pass0) pa_nil)))))), ?_⟩
    obtain ⟨dx, hp⟩ := hM.ins
    obtain ⟨es, hd, hpl, hperm⟩ := hM.plies
    have hppa : p ≠ pa := ne_of hp hd (by intro z; cases z)
    have hes : es.length ≤ 40 := by rw [es_len hperm]; exact hF.pl
    refine ⟨pa, .dK (kvsOf es), hd, trivial, fun od => ?_⟩
    refine ⟨_, rfl, p, t.cM, dx, _, _, rfl, at_upd hp hppa, T.clM, T.n_plies, mf_plies, pa, od, kvsOf es, rfl, upd_same, fun D hD => ?_⟩
    refine lc_vals (d := pa) (o := od) (kvs := kvsOf es) (fun j H' => Same (upd H pa (.frz od (.dK (kvsOf es)))) H' ∧ SpAt H' D ((spans es).take j))
      ⟨same_new hD, _, upd_same, .nil⟩ (fun j H' _ h => h.1 _ _ upd_same) ?_ ?_
    · rintro j k' y H' hy ⟨s, vs, hD1, hD2⟩
      obtain ⟨e, he, rfl⟩ := kvs_get hy
      obtain ⟨da, hpa⟩ := hpl e (List.mem_of_getElem? he)
      have hpa' := s _ _ (at_upd (u := .frz od (.dK (kvsOf es))) hpa (ne_of hpa hd (by intro z; cases z)))
      refine ⟨rfl, _, rfl, e.2.1, t.cP, da, _, _, rfl, hpa', T.clP, T.n_first, pf_first, _, rfl, e.2.1, t.cP, da, _, _, rfl, hpa', T.clP, T.n_behind, pf_behind, (by show 2 ≤ sizeLine; decide), fun q hq => ?_⟩
      have s2 := same_new (o := .tup [.int (e.2.2.from_ : Int), .int (e.2.2.to : Int)]) hq
      refine ⟨vs, s2 _ _ hD1, ?_, same_upd (s.trans s2) hD, ?_⟩
      · rw [paired_len hD2, List.length_take]
        exact small64' (Nat.lt_of_le_of_lt (Nat.min_le_right _ _) (by unfold spans; rw [List.length_map]; omega))
      · have hsp : (spans es)[j]? = some (e.2.2.from_, e.2.2.to) := by unfold spans; rw [List.getElem?_map, he]; rfl
        rw [take_snoc hsp]
        exact SpAt.snoc (s2 _ _ hD1) (Paired.mapP hD2 fun _ _ z => z.same s2) upd_same
    · rintro H' ⟨s, hD1⟩
      rw [kvs_len, show es.length = (spans es).length by unfold spans; rw [List.length_map], List.take_length] at hD1
      have hlk := s _ _ (upd_same (H := H) (a := pa) (o := .frz od (.dK (kvsOf es))))
      refine ⟨hlk, ?_⟩
      have s3 := lock_same hd s
      obtain ⟨vs, hv1, hv2⟩ := hD1.put hlk
      obtain ⟨us, hu1, hu2⟩ := hS.same s3
      refine ⟨_, rfl, _, rfl, D, l, _, _, rfl, rfl, hv1, hu1, ?_, fun c hc => ?_⟩
      · rw [paired_len hv2, paired_len hu2]
        have : (spans es).length ≤ 40 := by unfold spans; rw [List.length_map]; exact hes
        exact Nat.le_trans (show (spans es).length + sp.length ≤ 1040 by omega) (by decide)
      · have s4 := s3.trans (same_new (o := .lst (vs ++ us)) hc)
        have s5 := same_new (o := .lst (vs ++ us)) hc
        refine ⟨_, rfl, p, dx, _, rfl, s4 _ _ hp, mf_no (by decide), p, na, pa, sa, m, rfl, hM.same s4, c, spans es ++ sp, Kqv1.stations m, rfl, ⟨_, upd_same, paired_app (Paired.mapP hv2 fun _ _ z => z.same s5) (Paired.mapP hu2 fun _ _ z => z.same s5)⟩, fun q hq => ?_, hF.sl, fun H5 r s6 hr => ?_⟩
        · rcases List.mem_append.mp hq with hq | hq
          · have := (spans_perm hperm).mem_iff.mp hq
            unfold pairs at this
            obtain ⟨x, hx, rfl⟩ := List.mem_map.mp this
            exact hF.pv x hx
          · exact hv q hq
        · refine k H5 r (s4.trans s6) ?_
          rw [hr]
          unfold endsL
          congr 3
          refine List.map_congr_left fun b _ => ?_
          exact endsOf_perm ((spans_perm hperm).append_right sp) _ _
theorem endsL_ne {m : Mould} (F : Fit m) (sp : List (Nat × Nat)) : 0 < ((endsL m sp).map Int.ofNat).length := by
  unfold endsL
  rw [List.length_map, List.length_map, List.length_range]
  exact Nat.pos_of_ne_zero fun z => F.st (List.length_eq_zero_iff.mp z)
theorem ok_has_ends_for (T : Txt K mg t) : FnOk P w K mg base CX0 3 t.f_has_ends_for t.d_has_ends_for ["self", "more_spans"] (sp_has_ends_for t) := by
  refine T.F_has_ends_for.ok sc_has_ends_for (fun vs H Q E h => ?_) (fun cdv A outer s H vs Q E hr h => ?_)
  · obtain ⟨_, _, _, _, _, _, _, rfl, _⟩ := h
    rfl
  · obtain ⟨p, na, pa, sa, l, m, sp, rfl, hM, hF, hS, hv, hlen, k⟩ := h
    have hu := hu_of hr
    refine ⟨_, (pss_one (ps_ret (pe_cmpR op_le (pe_callB (cr_max rfl) rfl T.n_max PyProof.Rows.boot_max (pa_cons (pe_meth (pv 0) T.clM T.m_ends_with (ok_ends_with T) (hr.mono (by decide)) T.b_ends_with .nil pass0 (pa_cons (pv 1) pa_nil)) pa_nil)) (pe_fld (pv 0) rfl) (nomark _)))), ?_⟩
    obtain ⟨dx, hp⟩ := hM.ins
    refine ⟨_, rfl, p, dx, _, rfl, hp, mf_no (by decide), _, rfl, p, na, pa, sa, l, m, sp, rfl, hM, hF, hS, hv, hlen, fun H1 r s1 hr => ⟨r, _, rfl, SqL.of hr, endsL_ne hF sp, fun mx h1 h2 => ?_⟩⟩
    refine ⟨_, rfl, p, t.cM, dx, _, _, rfl, s1 _ _ hp, T.clM, T.n_most_ends, mf_most, _, _, rfl, rfl, ?_⟩
    have e : decide (mx ≤ (m.ends : Int)) = decide (∀ x ∈ endsL m sp, x ≤ m.ends) := by
      by_cases h : mx ≤ (m.ends : Int)
      · rw [decide_eq_true h]
        refine (decide_eq_true fun x hx => ?_).symm
        have : (x : Int) ≤ mx := h2 _ (List.mem_map.mpr ⟨x, hx, rfl⟩)
        omega
      · rw [decide_eq_false h]
        refine (decide_eq_false fun z => h ?_).symm
        obtain ⟨x, hx, ex⟩ := List.mem_map.mp h1
        have ex : (x : Int) = mx := ex
        have := z x hx
        omega
    show Q (.bl (decide (mx ≤ (m.ends : Int)))) H1
    rw [e]
    exact k H1 s1
theorem ok_fabric_of (T : Txt K mg t) : FnOk P w K mg base CX0 1 t.f_fabric_of t.d_fabric_of ["self", "ply"] (sp_fabric_of t) := by
  refine T.F_fabric_of.ok sc_fabric_of (fun vs H Q E h => ?_) (fun cdv A outer s H vs Q E hr h => ?_)
  · obtain ⟨_, _, _, _, _, _, rfl, _⟩ := h
    rfl
  · obtain ⟨p, a, dx, fs, L, x, rfl, hp, hlk, hL, hA, hft, k⟩ := h
    have hu := hu_of hr
    refine ⟨_, (pss_one (ps_ret (pe_op op_mul (pe_op op_sub (pe_fld (pv 1) rfl) (pe_fld (pv 1) rfl)) (pe_fld (pv 0) rfl)))), ?_⟩
    obtain ⟨da, hpa⟩ := hA
    refine ⟨_, rfl, a, t.cP, da, _, _, rfl, hpa, T.clP, T.n_behind, pf_behind, _, rfl, a, t.cP, da, _, _, rfl, hpa, T.clP, T.n_first, pf_first, _, _, rfl, rfl, _, rfl, p, t.cM, dx, _, _, rfl, hp, T.clM, T.n_long, hlk, _, _, rfl, rfl, .inr ⟨by omega, by omega⟩, ?_⟩
    show Q (.int (((x.to : Int) - (x.from_ : Int)) * (L : Int))) H
    rw [show ((x.to : Int) - (x.from_ : Int)) * (L : Int) = (((x.to - x.from_) * L : Nat) : Int) by rw [Int.natCast_mul]; congr 1; omega]
    exact k
theorem take_map_sum {l : List Ply} {m : Mould} : ((l.map (Kqv1.long m)).map Int.ofNat).sum = ((Kqv1.sum (l.map (Kqv1.long m)) : Nat) : Int) := iN_sum _
theorem ok_fabric_in_plies (T : Txt K mg t) : FnOk P w K mg base CX0 2 t.f_fabric_in_plies t.d_fabric_in_plies ["self"] (sp_fabric_in_plies t) := by
  refine T.F_fabric_in_plies.ok sc_fabric_in_plies (fun vs H Q E h => ?_) (fun cdv A outer s H vs Q E hr h => ?_)
  · obtain ⟨_, _, _, _, _, rfl, _⟩ := h
    rfl
  · obtain ⟨p, na, pa, sa, m, rfl, hM, hF, k⟩ := h
    have hu := hu_of hr
    refine ⟨_, (pss_one (ps_ret (pe_callB (cr_sum rfl) rfl T.n_sum PyProof.Rows.boot_sum (pa_cons (pe_lock (pe_lc rfl sc_fabric_in_plies.nd (pi_values (pe_fld (pv 0) rfl)) (own := [("ply", 1)]) (blkOk_by (by with_unfolding_all rfl)) (fun _ _ _ _ _ => pg_name (i := 1) sc_fabric_in_plies.nd rfl (Or.inl rfl)) (fun _ _ _ _ _ => pts_nil) (fun _ _ _ _ _ => (pe_meth (pv 0) T.clM T.m_fabric_of (ok_fabric_of T) (hr.mono (by decide)) T.b_fabric_of .nil pass0 (pa_cons (pv 1) pa_nil))))) pa_nil)))), ?_⟩
    obtain ⟨dx, hp⟩ := hM.ins
    obtain ⟨es, hd, hpl, hperm⟩ := hM.plies
    have hppa : p ≠ pa := ne_of hp hd (by intro z; cases z)
    have hes : es.length ≤ 40 := by rw [es_len hperm]; exact hF.pl
    refine ⟨pa, .dK (kvsOf es), hd, trivial, fun od => ?_⟩
    refine ⟨_, rfl, p, t.cM, dx, _, _, rfl, at_upd hp hppa, T.clM, T.n_plies, mf_plies, pa, od, kvsOf es, rfl, upd_same, fun D hD => ?_⟩
    refine lc_vals (d := pa) (o := od) (kvs := kvsOf es) (fun j H' => Same (upd H pa (.frz od (.dK (kvsOf es)))) H' ∧ H' D = some (.lst (iN ((es.take j).map fun e => Kqv1.long m e.2.2))))
      ⟨same_new hD, upd_same⟩ (fun j H' _ h => h.1 _ _ upd_same) ?_ ?_
    · rintro j k' y H' hy ⟨s, hD1⟩
      obtain ⟨e, he, rfl⟩ := kvs_get hy
      obtain ⟨da, hpa⟩ := hpl e (List.mem_of_getElem? he)
      have hpa' := s _ _ (at_upd (u := .frz od (.dK (kvsOf es))) hpa (ne_of hpa hd (by intro z; cases z)))
      have hp' := s _ _ (at_upd (u := .frz od (.dK (kvsOf es))) hp hppa)
      have hft : e.2.2.from_ ≤ e.2.2.to := Nat.le_of_lt (hF.pv _ ((es_there hperm).mem_iff.mp (List.mem_map.mpr ⟨e, List.mem_of_getElem? he, rfl⟩))).1
      refine ⟨rfl, _, rfl, p, dx, _, rfl, hp', mf_no (by decide), _, rfl, p, e.2.1, dx, _, m.long, e.2.2, rfl, hp', mf_long, hF.lo, ⟨da, hpa'⟩, hft, _, hD1, ?_, same_upd s hD, ?_⟩
      · rw [iN_len, List.length_map, List.length_take]
        exact small64' (Nat.lt_of_le_of_lt (Nat.min_le_right _ _) (by omega))
      · rw [upd_same, take_snoc he, List.map_append, List.map_cons, List.map_nil, iN_snoc]
        rfl
    · rintro H' ⟨s, hD1⟩
      rw [kvs_len, List.take_length] at hD1
      have hlk := s _ _ (upd_same (H := H) (a := pa) (o := .frz od (.dK (kvsOf es))))
      refine ⟨hlk, ?_⟩
      have s3 := lock_same hd s
      refine ⟨D, _, rfl, SqL.of (at_upd hD1 (ne_of hD1 hlk (by intro z; cases z))), ?_⟩
      have e1 : ((es.map fun e => Kqv1.long m e.2.2).map Int.ofNat).sum = ((m.used : Nat) : Int) := by
        rw [iN_sum, hF.us]
        congr 1
        have := sum_perm ((es_there hperm).map (Kqv1.long m))
        rw [List.map_map] at this
        exact this
      show Q (.int ((es.map fun e => Kqv1.long m e.2.2).map Int.ofNat).sum) _
      rw [e1]
      exact k _ s3
theorem ok_least_free_number (T : Txt K mg t) : FnOk P w K mg base CX0 1 t.f_least_free_number t.d_least_free_number ["self"] (sp_least_free_number t) := by
  refine T.F_least_free_number.ok sc_least_free_number (fun vs H Q E h => ?_) (fun cdv A outer s H vs Q E hr h => ?_)
  · obtain ⟨_, _, _, _, _, rfl, _⟩ := h
    rfl
  · obtain ⟨p, na, pa, sa, m, rfl, hM, k⟩ := h
    have hu := hu_of hr
    refine ⟨_, (pss_cons (ps_set (i := 1) sc_least_free_number.nd rfl (Or.inl rfl) pe_int) (pss_cons (ps_while PassesOwn.never (pt_cmp (pc_din (by exact hu) (pv 1) (pe_fld (pv 0) rfl)) (by with_unfolding_all rfl)) (pss_one (ps_aug (i := 1) sc_least_free_number.nd rfl (Or.inl rfl) pe_int ip_add))) (pss_one (ps_ret (pv 1))))), ?_⟩
    obtain ⟨dx, hp⟩ := hM.ins
    obtain ⟨es, hd, hpl, hperm⟩ := hM.plies
    refine ⟨fun j σ H' => ∃ n : Nat, σ = [some (.ref p), some (.int n)] ∧ H' = H ∧ n + j = Kqv1.slot m.plies, ⟨_, 0, rfl, rfl, Nat.zero_add _⟩, ?_⟩
    rintro j σ H' ⟨n, rfl, rfl, hn⟩
    refine ⟨_, rfl, _, rfl, p, t.cM, dx, _, _, rfl, hp, T.clM, T.n_plies, mf_plies, pa, _, rfl, DGet.k (k := Sum.inl (n : Int)) hd, _, rfl, ?_⟩
    rw [es_isSome hperm]
    by_cases hj : j = 0
    · have e : n = Kqv1.slot m.plies := by omega
      rw [e, slot_none]
      refine iteF ⟨_, rfl, ?_⟩
      rw [e] at *
      exact k
    · obtain ⟨x, hx⟩ := slot_some m.plies n (by omega)
      rw [hx]
      refine iteT ⟨fun σ' H2 => ∃ n' : Nat, σ' = [some (.ref p), some (.int n')] ∧ H2 = H' ∧ n' + (j - 1) = Kqv1.slot m.plies, fun σ' H2 ⟨n', h1, h2, h3⟩ => ⟨j - 1, by omega, n', h1, h2, h3⟩, ?_⟩
      exact ⟨_, rfl, _, _, rfl, rfl, n + 1, rfl, rfl, by omega⟩
theorem stock_get {m : Mould} {k : Nat} (h : k < m.stock.length) : m.stock[k]? = some (Kqv1.have_ m k) := by
  unfold Kqv1.have_
  rw [List.getD_eq_getElem?_getD, List.getElem?_eq_getElem h]
  rfl
theorem plies_put {t : Adr} {H : Hp} {es : Es} {m : Mould} {pa : Addr} {kvs : List (Key × V)} (hd : H pa = some (.dK kvs)) {o : HO} (hpl : ∀ e ∈ es, PlyAt t H e.2.1 e.2.2) : ∀ e ∈ es, PlyAt t (upd H pa o) e.2.1 e.2.2 := fun e he => by
  obtain ⟨da, h⟩ := hpl e he
  exact ⟨da, at_upd h (ne_of h hd (by intro z; cases z))⟩
theorem ok_lay_ply (T : Txt K mg t) : FnOk P w K mg base CX0 2 t.f_lay_ply t.d_lay_ply ["self", "ply"] (sp_lay_ply t) := by
  refine T.F_lay_ply.ok sc_lay_ply (fun vs H Q E h => ?_) (fun cdv A outer s H vs Q E hr h => ?_)
  · obtain ⟨_, _, _, _, _, _, _, rfl, _⟩ := h
    rfl
  · obtain ⟨p, na, pa, sa, a, m, x, rfl, hM, hA, hft, hk, h1000, hlo, hhv, k⟩ := h
    have hu := hu_of hr
    refine ⟨_, (pss_cons (ps_set (i := 2) sc_lay_ply.nd rfl (Or.inl rfl) (pe_meth0 (pv 0) T.clM T.m_least_free_number (ok_least_free_number T) (hr.mono (by decide)) T.b_least_free_number .nil pass0)) (pss_cons (ps_dput (by exact hu) (pe_fld (pv 0) rfl) (pv 2) (pv 1) rfl) (pss_cons (ps_augS (pe_fld (pv 0) rfl) (pe_fld (pv 1) rfl) get_list (pe_meth (pv 0) T.clM T.m_fabric_of (ok_fabric_of T) (hr.mono (by decide)) T.b_fabric_of .nil pass0 (pa_cons (pv 1) pa_nil)) ip_sub set_list) (pss_one (ps_ret (pv 2)))))), ?_⟩
    obtain ⟨dx, hp⟩ := hM.ins
    obtain ⟨es, hd, hpl, hperm⟩ := hM.plies
    have hppa : p ≠ pa := ne_of hp hd (by intro z; cases z)
    have hpsa : p ≠ sa := ne_of hp hM.stock (by intro z; cases z)
    have hsapa : sa ≠ pa := ne_of hM.stock hd (by intro z; cases z)
    have hnapa : na ≠ pa := ne_of hM.need hd (by intro z; cases z)
    obtain ⟨da, hpa⟩ := hA
    have hapa : a ≠ pa := ne_of hpa hd (by intro z; cases z)
    have hasa : a ≠ sa := ne_of hpa hM.stock (by intro z; cases z)
    refine ⟨_, rfl, p, dx, _, rfl, hp, mf_no (by decide), p, na, pa, sa, m, rfl, hM, ?_⟩
    have hlen : (kvsOf es).length < sizeLine := by rw [kvs_len, es_len hperm]; exact Nat.lt_of_le_of_lt h1000 (by decide)
    refine ⟨_, rfl, _, rfl, p, t.cM, dx, _, _, rfl, hp, T.clM, T.n_plies, mf_plies, _, rfl, pa, _, rfl, DPut.k (k := Sum.inl ((Kqv1.slot m.plies : Nat) : Int)) hd hlen, ?_⟩
    rw [es_put (x := x) hperm a (slot_none m.plies)]
    have hst := at_upd (u := .dK (kvsOf (es ++ [(Kqv1.slot m.plies, a, x)]))) hM.stock hsapa
    have hp2 := at_upd (u := .dK (kvsOf (es ++ [(Kqv1.slot m.plies, a, x)]))) hp hppa
    have ha2 := at_upd (u := .dK (kvsOf (es ++ [(Kqv1.slot m.plies, a, x)]))) hpa hapa
    refine ⟨_, rfl, p, t.cM, dx, _, _, rfl, hp2, T.clM, T.n_stock, mf_stock, _, rfl, a, t.cP, da, _, _, rfl, ha2, T.clP, T.n_kind, pf_kind, sa, _, _, _, rfl, rfl, SqL.of hst, atI_nat (iN_get (stock_get hk)),
      _, rfl, p, dx, _, rfl, hp2, mf_no (by decide), _, rfl, p, a, dx, _, m.long, x, rfl, hp2, mf_long, hlo, ⟨da, ha2⟩, hft, _, _, rfl, rfl, sa, _, _, x.kind, rfl, rfl, hst, ixN_nat (by rw [iN_len]; exact hk), ?_⟩
    refine ⟨_, rfl, k _ ⟨⟨dx, at_upd hp2 hpsa⟩, at_upd (at_upd hM.need hnapa) hM.ns, ?_, ⟨es ++ [(Kqv1.slot m.plies, a, x)], at_upd upd_same hsapa.symm, fun e he => ?_, ?_⟩, hM.ns⟩ fun b o hb h1 h2 => at_upd (at_upd hb h1) h2⟩
    · rw [upd_same]
      have e : ((Kqv1.have_ m x.kind : Nat) : Int) - (((x.to - x.from_) * m.long : Nat) : Int) = ((Kqv1.have_ m x.kind - Kqv1.long m x : Nat) : Int) := by
        have : Kqv1.long m x = (x.to - x.from_) * m.long := rfl
        omega
      show some (HO.lst ((iN m.stock).set x.kind (V.int (((Kqv1.have_ m x.kind : Nat) : Int) - (((x.to - x.from_) * m.long : Nat) : Int))))) = _
      rw [e, iN_set]
      rfl
    · rcases List.mem_append.mp he with he | he
      · obtain ⟨de, h⟩ := hpl e he
        exact ⟨de, at_upd (at_upd h (ne_of h hd (by intro z; cases z))) (ne_of h hM.stock (by intro z; cases z))⟩
      · have e1 := List.mem_singleton.mp he
        subst e1
        exact ⟨da, at_upd ha2 hasa⟩
    · show (plain (es ++ [(Kqv1.slot m.plies, a, x)])).Perm (ent 0 (Kqv1.putIn m.plies x))
      unfold plain
      rw [List.map_append]
      refine List.Perm.trans ?_ (ent_put x 0 m.plies).symm
      refine List.Perm.trans List.perm_append_comm ?_
      exact hperm.cons _
theorem pm_ne {cP cM dx dy : Addr} {a b k L E : Nat} {na pa sa : Addr} {S : Nat} : HO.ins cP dx (pfs a b k) ≠ HO.ins cM dy (mfs L E na pa sa S) := by
  intro z
  injection z with _ _ h
  have h2 : (3 : Nat) = 6 := congrArg List.length h
  exact absurd h2 (by decide)
theorem plain_filter {es : Es} {n : Nat} : plain (es.filter fun e => !decide (e.1 = n)) = (plain es).filter fun e => !decide (e.1 = n) := by
  unfold plain
  rw [List.filter_map]
  rfl
theorem ok_lift_ply (T : Txt K mg t) : FnOk P w K mg base CX0 2 t.f_lift_ply t.d_lift_ply ["self", "number"] (sp_lift_ply t) := by
  refine T.F_lift_ply.ok sc_lift_ply (fun vs H Q E h => ?_) (fun cdv A outer s H vs Q E hr h => ?_)
  · obtain ⟨_, _, _, _, _, _, _, rfl, _⟩ := h
    rfl
  · obtain ⟨p, na, pa, sa, m, n, x, rfl, hM, hx, hft, hlo, k⟩ := h
    have hu := hu_of hr
    refine ⟨_, (pss_cons (ps_set (i := 2) sc_lift_ply.nd rfl (Or.inl rfl) (pe_meth (pv 0) T.clM T.m_fabric_of (ok_fabric_of T) (hr.mono (by decide)) T.b_fabric_of .nil pass0 (pa_cons (pe_dpop1 (pe_fld (pv 0) rfl) (pv 1) ⟨rfl, rfl, rfl, rfl⟩) pa_nil))) (pss_cons (ps_fldaug (pv 0) (pv 2) in_add) (pss_one (ps_ret (pv 2))))), ?_⟩
    obtain ⟨dx, hp⟩ := hM.ins
    obtain ⟨es, hd, hpl, hperm⟩ := hM.plies
    have hppa : p ≠ pa := ne_of hp hd (by intro z; cases z)
    have hpsa : p ≠ sa := ne_of hp hM.stock (by intro z; cases z)
    have hpna : p ≠ na := ne_of hp hM.need (by intro z; cases z)
    have hsapa : sa ≠ pa := ne_of hM.stock hd (by intro z; cases z)
    have hnapa : na ≠ pa := ne_of hM.need hd (by intro z; cases z)
    obtain ⟨a, ha, hv⟩ := es_some hperm hx
    obtain ⟨da, hpa⟩ : PlyAt t H a x := hpl _ ha
    have hapa : a ≠ pa := ne_of hpa hd (by intro z; cases z)
    have hap : a ≠ p := ne_of hpa hp pm_ne
    refine ⟨_, rfl, p, dx, _, rfl, hp, mf_no (by decide), _, rfl, p, t.cM, dx, _, _, rfl, hp, T.clM, T.n_plies, mf_plies, pa, rfl, .inl ⟨_, .inl hd⟩, _, rfl, kvsOf es, Sum.inl (n : Int), .ref a, hd, rfl, hv, ?_⟩
    rw [es_drop]
    have hp2 := at_upd (u := .dK (kvsOf (es.filter fun e => !decide (e.1 = n)))) hp hppa
    have ha2 := at_upd (u := .dK (kvsOf (es.filter fun e => !decide (e.1 = n)))) hpa hapa
    refine ⟨p, a, dx, _, m.long, x, rfl, hp2, mf_long, hlo, ⟨da, ha2⟩, hft, ?_⟩
    refine ⟨_, rfl, p, t.cM, dx, _, _, rfl, hp2, T.clM, T.n_scrap, mf_scrap, _, rfl, _, _, rfl, rfl, dx, _, hp2, (by show 6 < 1000; decide), ?_⟩
    refine ⟨_, rfl, k _ ⟨⟨dx, ?_⟩, at_upd (at_upd hM.need hnapa) hpna.symm, at_upd (at_upd hM.stock hsapa) hpsa.symm, ⟨es.filter fun e => !decide (e.1 = n), at_upd upd_same hppa.symm, fun e he => ?_, ?_⟩, hM.ns⟩ fun b o hb h1 h2 => at_upd (at_upd hb h1) h2⟩
    · rw [upd_same]
      exact congrArg (fun q => some (HO.ins t.cM dx q)) (mf_put_scrap _ (m.scrap + Kqv1.long m x) (by show ((m.scrap : Nat) : Int) + (((x.to - x.from_) * m.long : Nat) : Int) = _; rfl))
    · obtain ⟨de, h⟩ := hpl e (List.mem_filter.mp he).1
      exact ⟨de, at_upd (at_upd h (ne_of h hd (by intro z; cases z))) (ne_of h hp pm_ne)⟩
    · show (plain _).Perm (ent 0 (m.plies.set n none))
      rw [plain_filter, ent_set_none]
      exact hperm.filter _
theorem plain_map {es : Es} {n : Nat} {b : Addr} {y : Ply} : plain (es.map fun e => if e.1 = n then (e.1, b, y) else e) = (plain es).map fun e => if e.1 = n then (e.1, y) else e := by
  unfold plain
  rw [List.map_map, List.map_map]
  refine List.map_congr_left fun e _ => ?_
  simp only [Function.comp]
  by_cases h : e.1 = n
  · rw [if_pos h, if_pos h]
  · rw [if_neg h, if_neg h]
theorem map_len {es : Es} {n : Nat} {b : Addr} {y : Ply} : (kvsOf (es.map fun e => if e.1 = n then (e.1, b, y) else e)).length = es.length := by
  rw [kvs_len, List.length_map]
theorem ok_swap_plies (T : Txt K mg t) : FnOk P w K mg base CX0 1 t.f_swap_plies t.d_swap_plies ["self", "one", "other"] (sp_swap_plies t) := by
  refine T.F_swap_plies.ok sc_swap_plies (fun vs H Q E h => ?_) (fun cdv A outer s H vs Q E hr h => ?_)
  · obtain ⟨_, _, _, _, _, _, _, _, _, rfl, _⟩ := h
    rfl
  · obtain ⟨p, na, pa, sa, m, n, k', x, y, rfl, hM, hx, hy, hne, h1000, k⟩ := h
    have hu := hu_of hr
    refine ⟨_, (pss_cons (ps_set (i := 3) sc_swap_plies.nd rfl (Or.inl rfl) (pe_dget (by exact hu) (pe_fld (pv 0) rfl) (pv 1) (fun _ _ => rfl))) (pss_cons (ps_dput (by exact hu) (pe_fld (pv 0) rfl) (pv 1) (pe_dget (by exact hu) (pe_fld (pv 0) rfl) (pv 2) (fun _ _ => rfl)) rfl) (pss_one (ps_dput (by exact hu) (pe_fld (pv 0) rfl) (pv 2) (pv 3) rfl)))), ?_⟩
    obtain ⟨dx, hp⟩ := hM.ins
    obtain ⟨es, hd, hpl, hperm⟩ := hM.plies
    have hppa : p ≠ pa := ne_of hp hd (by intro z; cases z)
    have hsapa : sa ≠ pa := ne_of hM.stock hd (by intro z; cases z)
    have hnapa : na ≠ pa := ne_of hM.need hd (by intro z; cases z)
    obtain ⟨a, ha, hv⟩ := es_some hperm hx
    obtain ⟨b, hb, hv2⟩ := es_some hperm hy
    have hPa : PlyAt t H a x := hpl _ ha
    have hPb : PlyAt t H b y := hpl _ hb
    have hg : DGet H pa (.int (n : Int)) (some (.ref a)) := hv ▸ DGet.k (k := Sum.inl (n : Int)) hd
    have hg2 : DGet H pa (.int (k' : Int)) (some (.ref b)) := hv2 ▸ DGet.k (k := Sum.inl (k' : Int)) hd
    have hlen : (kvsOf es).length < sizeLine := by rw [kvs_len, es_len hperm]; exact Nat.lt_of_le_of_lt h1000 (by decide)
    refine ⟨_, rfl, p, t.cM, dx, _, _, rfl, hp, T.clM, T.n_plies, mf_plies, _, rfl, pa, _, rfl, hg, ?_⟩
    refine ⟨_, rfl, p, t.cM, dx, _, _, rfl, hp, T.clM, T.n_plies, mf_plies, _, rfl, pa, _, rfl, hg2, _, rfl, p, t.cM, dx, _, _, rfl, hp, T.clM, T.n_plies, mf_plies, _, rfl, pa, _, rfl, DPut.k (k := Sum.inl (n : Int)) hd hlen, ?_⟩
    rw [es_putOld (y := y) hperm hx]
    generalize hes2 : (es.map fun e => if e.1 = n then (e.1, b, y) else e) = es2
    have hperm2 : (plain es2).Perm (ent 0 (m.plies.set n (some y))) := by
      rw [← hes2, plain_map, ent_set_some hx]
      exact hperm.map _
    have hy2 : (m.plies.set n (some y)).getD k' none = some y := by
      rw [List.getD_eq_getElem?_getD, List.getElem?_set_ne hne, ← List.getD_eq_getElem?_getD]; exact hy
    have hpl2 : ∀ e ∈ es2, PlyAt t H e.2.1 e.2.2 := fun e he => by
      rw [← hes2] at he
      obtain ⟨e0, he0, rfl⟩ := List.mem_map.mp he
      by_cases q : e0.1 = n
      · rw [if_pos q]; exact hPb
      · rw [if_neg q]; exact hpl e0 he0
    have hlen2 : (kvsOf es2).length < sizeLine := by rw [← hes2, map_len, ← kvs_len]; exact hlen
    have hp2 := at_upd (u := .dK (kvsOf es2)) hp hppa
    refine ⟨_, rfl, _, rfl, p, t.cM, dx, _, _, rfl, hp2, T.clM, T.n_plies, mf_plies, _, rfl, pa, _, rfl, DPut.k (k := Sum.inl (k' : Int)) upd_same hlen2, ?_⟩
    rw [es_putOld (m := { m with plies := m.plies.set n (some y) }) (y := x) hperm2 hy2, upd_upd]
    refine k _ ⟨⟨dx, at_upd hp hppa⟩, at_upd hM.need hnapa, at_upd hM.stock hsapa, ⟨_, upd_same, fun e he => ?_, ?_⟩, hM.ns⟩ fun c o hc h1 => at_upd hc h1
    · obtain ⟨e0, he0, rfl⟩ := List.mem_map.mp he
      have : PlyAt t H (if e0.1 = k' then (e0.1, a, x) else e0).2.1 (if e0.1 = k' then (e0.1, a, x) else e0).2.2 := by
        by_cases q : e0.1 = k'
        · rw [if_pos q]; exact hPa
        · rw [if_neg q]; exact hpl2 e0 he0
      obtain ⟨de, h⟩ := this
      exact ⟨de, at_upd h (ne_of h hd (by intro z; cases z))⟩
    · show (plain _).Perm (ent 0 ((m.plies.set n (some y)).set k' (some x)))
      rw [plain_map, ent_set_some hy2]
      exact hperm2.map _
end
end Bm
end
section
set_option Elab.async false
set_option linter.all false
set_option maxRecDepth 100000
set_option maxHeartbeats 4000000
namespace Bm
open PySem PySem.Spec PyProof.Rows L2
open Kqv1 (Ply Mould)
section
variable {P : Program} {w : World} {K : PySem.W.Frag} {mg : Str → Option Value} {base : Heap} {t : Adr}
theorem Kept.of {H H' : Hp} {p na pa sa : Addr} (f : ∀ b o, H b = some o → b ≠ p → b ≠ na → b ≠ pa → b ≠ sa → H' b = some o) : Kept H H' p na pa sa na pa sa :=
  ⟨fun b o h h1 h2 h3 h4 => ⟨f b o h h1 h2 h3 h4, h2, h3, h4⟩⟩
section
variable {t : Adr} {H H1 : Hp} {p na pa sa : Addr} {Q : VK} {m : Mould} {c : Kqv1.Call}
theorem Done.reads {r : Addr} {vs : List V} (D : Done t H p na pa sa Q (some m) c) (hM : MAt t H p na pa sa m) (hF : Fit m) {a : Kqv1.Ans} (hst : Kqv1.step (some m) c = (some m, a)) (s : Same H H1) (hr : H1 r = some (.lst vs)) (hv : vs = (Kqv1Neutral.tell a).map V.int) (hf : H r = none) : Q (.ref r) H1 := by
  refine D H1 na pa sa r ?_ (.of_same s) ?_ (fun b o hb _ _ _ _ => ne_of_none hb hf)
  · rw [hst]; exact .yes (hM.same s) hF
  · rw [hst, hr, hv]
theorem Done.num {v : Int} (D : Done t H p na pa sa Q (some m) c) (hM : MAt t H p na pa sa m) (hF : Fit m) (s : Same H H1) (hst : Kqv1.step (some m) c = (some m, .num v)) :
    1 ≤ sizeLine ∧ ∀ r, H1 r = none → Q (.ref r) (upd H1 r (.lst [.int v])) :=
  ⟨by decide, fun r hr => D.reads hM hF hst (s.trans (same_new hr)) upd_same rfl (s.free hr)⟩
theorem MAt.setNeed {i n : Nat} (hM : MAt t H p na pa sa m) : MAt t (upd H na (.lst (iN (m.need.set i n)))) p na pa sa { m with need := m.need.set i n } := by
  obtain ⟨dx, hp⟩ := hM.ins
  obtain ⟨es, hd, hpl, hperm⟩ := hM.plies
  refine ⟨⟨dx, at_upd hp (ne_of hp hM.need (by intro z; cases z))⟩, upd_same, at_upd hM.stock hM.ns.symm, ⟨es, at_upd hd (ne_of hd hM.need (by intro z; cases z)), fun e he => ?_, hperm⟩, hM.ns⟩
  obtain ⟨da, h⟩ := hpl e he
  exact ⟨da, at_upd h (ne_of h hM.need (by intro z; cases z))⟩
theorem MAt.setStock {i n : Nat} (hM : MAt t H p na pa sa m) : MAt t (upd H sa (.lst (iN (m.stock.set i n)))) p na pa sa { m with stock := m.stock.set i n } := by
  obtain ⟨dx, hp⟩ := hM.ins
  obtain ⟨es, hd, hpl, hperm⟩ := hM.plies
  refine ⟨⟨dx, at_upd hp (ne_of hp hM.stock (by intro z; cases z))⟩, at_upd hM.need hM.ns, upd_same, ⟨es, at_upd hd (ne_of hd hM.stock (by intro z; cases z)), fun e he => ?_, hperm⟩, hM.ns⟩
  obtain ⟨da, h⟩ := hpl e he
  exact ⟨da, at_upd h (ne_of h hM.stock (by intro z; cases z))⟩
end
theorem step_set (m : Mould) (i n : Nat) : Kqv1.step (some m) (.set i n) = if Kqv1.stations m ≤ i ∨ 12 < n then (some m, .num (-22)) else if n < Kqv1.layers m i then (some m, .num (-16)) else (some { m with need := m.need.set i n }, .num (Kqv1.needs m i)) := rfl
theorem step_roll (m : Mould) (k n : Nat) : Kqv1.step (some m) (.roll k n) = if 4 ≤ k ∨ n = 0 ∨ 100000 < Kqv1.have_ m k + n then (some m, .num (-22)) else (some { m with stock := m.stock.set k (Kqv1.have_ m k + n) }, .num (Kqv1.have_ m k + n : Nat)) := rfl
theorem ok_set_need (T : Txt K mg t) : FnOk P w K mg base CX0 3 t.f_set_need t.d_set_need ["mould", "numbers"] (sp_set_need t) := by
  refine T.F_set_need.ok sc_set_need (fun vs H Q E h => ?_) (fun cdv A outer s H vs Q E hr h => ?_)
  · obtain ⟨_, _, _, _, _, _, _, _, rfl, _⟩ := h
    rfl
  · obtain ⟨i, n, p, l, na, pa, sa, m, rfl, hM, hF, hl, D⟩ := h
    have hu := hu_of hr
    refine ⟨_, (pss_cons (ps_set (i := 2) sc_set_need.nd rfl (Or.inl rfl) (pe_ix ix_list (pv 1) pe_int (fun _ _ => rfl))) (pss_cons (ps_set (i := 3) sc_set_need.nd rfl (Or.inl rfl) (pe_ix ix_list (pv 1) pe_int (fun _ _ => rfl))) (pss_cons (ps_if (PW.pt (pw_or (pt_not (pt_val (pe_meth (pv 0) T.clM T.m_has_station (ok_has_station T) (hr.mono (by decide)) T.b_has_station .nil pass0 (pa_cons (pv 2) pa_nil)))) (pw_or1 (pt_cmpR op_gt (pv 3) (pe_gint rfl T.c_MOST_NEEDED) (nomark _))))) (pss_one (ps_ret (pe_lst (pa_cons (pe_gint rfl T.c_WRONG_NUMBER) pa_nil)))) pss_nil) (pss_cons (ps_if (pt_cmpR op_gt (pe_meth (pv 0) T.clM T.m_layers_at (ok_layers_at T) (hr.mono (by decide)) T.b_layers_at .nil pass0 (pa_cons (pv 2) pa_nil)) (pv 3) (nomark _)) (pss_one (ps_ret (pe_lst (pa_cons (pe_gint rfl T.c_TOO_MANY_LAYERS) pa_nil)))) pss_nil) (pss_cons (ps_set (i := 4) sc_set_need.nd rfl (Or.inl rfl) (pe_ix ix_list (pe_fld (pv 0) rfl) (pv 2) (fun _ _ => rfl))) (pss_cons (ps_asg (pv 3) (pg_sub (pe_fld (pv 0) rfl) (pv 2) set_list)) (pss_one (ps_ret (pe_lst (pa_cons (pv 4) pa_nil)))))))))), ?_⟩
    obtain ⟨dx, hp⟩ := hM.ins
    refine ⟨_, rfl, l, _, _, _, rfl, rfl, SqL.of hl, at_of (j := 0) (v := .int (i : Int)) rfl rfl, _, rfl, l, _, _, _, rfl, rfl, SqL.of hl, at_of (j := 1) (v := .int (n : Int)) rfl rfl, ?_⟩
    refine ⟨_, rfl, p, dx, _, rfl, hp, mf_no (by decide), _, rfl, p, na, pa, sa, m, i, rfl, hM, _, rfl, ite2 (fun c1 => ?_) (fun c1 => ?_)⟩
    · have c1 : ¬ i < Kqv1.stations m := fun z => by rw [decide_eq_true z] at c1; cases c1
      exact D.num hM hF (Same.refl _) (by rw [step_set, if_pos (.inl (by omega))])
    · have hi : i < Kqv1.stations m := by
        by_cases z : i < Kqv1.stations m
        · exact z
        · rw [decide_eq_false z] at c1; exact absurd rfl c1
      refine ⟨_, rfl, _, _, rfl, rfl, _, rfl, ite2 (fun c2 => ?_) (fun c2 => ?_)⟩
      · have c2 : 12 < n := by have := of_decide_eq_true c2; omega
        exact D.num hM hF (Same.refl _) (by rw [step_set, if_pos (.inr c2)])
      · have hn : ¬ 12 < n := fun z => c2 (decide_eq_true (by omega))
        refine ⟨_, rfl, p, dx, _, rfl, hp, mf_no (by decide), _, rfl, p, na, pa, sa, m, i, rfl, hM, hF.l64, fun H1 s1 => ⟨_, rfl, _, _, rfl, rfl, _, rfl, ite2 (fun c3 => ?_) (fun c3 => ?_)⟩⟩
        · have c3 : n < Kqv1.layers m i := by have := of_decide_eq_true c3; omega
          exact D.num hM hF s1 (by rw [step_set, if_neg (by omega), if_pos c3])
        · have c3 : ¬ n < Kqv1.layers m i := fun z => c3 (decide_eq_true (by omega))
          refine ⟨_, rfl, p, t.cM, dx, _, _, rfl, s1 _ _ hp, T.clM, T.n_need, mf_need, _, rfl, na, _, _, _, rfl, rfl, SqL.of (s1 _ _ hM.need), atI_nat (iN_get (need_get hi)), ?_⟩
          refine ⟨_, rfl, _, rfl, p, t.cM, dx, _, _, rfl, s1 _ _ hp, T.clM, T.n_need, mf_need, _, rfl, na, _, _, i, rfl, rfl, s1 _ _ hM.need, ixN_nat (by rw [iN_len]; exact hi), ?_⟩
          rw [iN_set]
          refine ⟨_, rfl, (by show 1 ≤ sizeLine; decide), fun r hr => ?_⟩
          have hst : Kqv1.step (some m) (.set i n) = (some { m with need := m.need.set i n }, .num (Kqv1.needs m i)) := by rw [step_set, if_neg (by omega), if_neg c3]
          have sr := same_new (o := .lst [V.int (Kqv1.needs m i : Int)]) hr
          refine D _ na pa sa r ?_ (.of fun b o hb h1 h2 h3 h4 => sr _ _ (at_upd (s1 _ _ hb) h2)) ?_ (fun b o hb h1 h2 h3 h4 => ne_of_none (at_upd (s1 _ _ hb) h2) hr)
          · rw [hst]
            exact .yes (((hM.same s1).setNeed).same sr) (hF.setNeed hi (by omega) (by omega))
          · rw [hst, upd_same]
            rfl
theorem ok_roll (T : Txt K mg t) : FnOk P w K mg base CX0 1 t.f_roll t.d_roll ["mould", "numbers"] (sp_roll t) := by
  refine T.F_roll.ok sc_roll (fun vs H Q E h => ?_) (fun cdv A outer s H vs Q E hr h => ?_)
  · obtain ⟨_, _, _, _, _, _, _, _, rfl, _⟩ := h
    rfl
  · obtain ⟨i, n, p, l, na, pa, sa, m, rfl, hM, hF, hl, D⟩ := h
    have hu := hu_of hr
    refine ⟨_, (pss_cons (ps_set (i := 2) sc_roll.nd rfl (Or.inl rfl) (pe_ix ix_list (pv 1) pe_int (fun _ _ => rfl))) (pss_cons (ps_set (i := 3) sc_roll.nd rfl (Or.inl rfl) (pe_ix ix_list (pv 1) pe_int (fun _ _ => rfl))) (pss_cons (ps_if (PW.pt (pw_or (pt_cmpR op_ge (pv 2) (pe_gint rfl T.c_KINDS) (nomark _)) (pw_or (pt_cmpR op_eq (pv 3) pe_int (nomark _)) (pw_or1 (pt_cmpR op_gt (pe_op op_add (pe_ix ix_list (pe_fld (pv 0) rfl) (pv 2) (fun _ _ => rfl)) (pv 3)) (pe_gint rfl T.c_MOST_STOCK) (nomark _)))))) (pss_one (ps_ret (pe_lst (pa_cons (pe_gint rfl T.c_WRONG_NUMBER) pa_nil)))) pss_nil) (pss_cons (ps_augS (pe_fld (pv 0) rfl) (pv 2) get_list (pv 3) ip_add set_list) (pss_one (ps_ret (pe_lst (pa_cons (pe_ix ix_list (pe_fld (pv 0) rfl) (pv 2) (fun _ _ => rfl)) pa_nil)))))))), ?_⟩
    obtain ⟨dx, hp⟩ := hM.ins
    refine ⟨_, rfl, l, _, _, _, rfl, rfl, SqL.of hl, at_of (j := 0) (v := .int (i : Int)) rfl rfl, _, rfl, l, _, _, _, rfl, rfl, SqL.of hl, at_of (j := 1) (v := .int (n : Int)) rfl rfl, ?_⟩
    refine ⟨_, rfl, _, _, rfl, rfl, _, rfl, ite2 (fun c1 => ?_) (fun c1 => ?_)⟩
    · have c1 : 4 ≤ i := by have := of_decide_eq_true c1; omega
      exact D.num hM hF (Same.refl _) (by rw [step_roll, if_pos (.inl c1)])
    · have hi : i < 4 := Nat.lt_of_not_le fun z => c1 (decide_eq_true (by omega))
      have hi4 : i < m.stock.length := by rw [hF.s4]; exact hi
      refine ⟨_, rfl, rfl, _, rfl, ite2 (fun c2 => ?_) (fun c2 => ?_)⟩
      · have c2 : n = 0 := by have := of_decide_eq_true c2; injection this with this; omega
        exact D.num hM hF (Same.refl _) (by rw [step_roll, if_pos (.inr (.inl c2))])
      · have hn : ¬ n = 0 := fun z => c2 (by subst z; rfl)
        refine ⟨_, rfl, p, t.cM, dx, _, _, rfl, hp, T.clM, T.n_stock, mf_stock, _, rfl, sa, _, _, _, rfl, rfl, SqL.of hM.stock, atI_nat (iN_get (stock_get hi4)), _, rfl, _, _, rfl, rfl, _, _, rfl, rfl, _, rfl, ite2 (fun c3 => ?_) (fun c3 => ?_)⟩
        · have c3 : 100000 < Kqv1.have_ m i + n := by have := of_decide_eq_true c3; omega
          exact D.num hM hF (Same.refl _) (by rw [step_roll, if_pos (.inr (.inr c3))])
        · have c3 : ¬ 100000 < Kqv1.have_ m i + n := fun z => c3 (decide_eq_true (by omega))
          refine ⟨_, rfl, p, t.cM, dx, _, _, rfl, hp, T.clM, T.n_stock, mf_stock, _, rfl, sa, _, _, _, rfl, rfl, SqL.of hM.stock, atI_nat (iN_get (stock_get hi4)), _, rfl, _, _, rfl, rfl, sa, _, _, i, rfl, rfl, hM.stock, ixN_nat (by rw [iN_len]; exact hi4), ?_⟩
          have e1 : (iN m.stock).set i (V.int ((fun i j : Int => i + j) (Kqv1.have_ m i : Int) (n : Int))) = iN (m.stock.set i (Kqv1.have_ m i + n)) := iN_set m.stock i (Kqv1.have_ m i + n)
          rw [e1]
          have hM2 := hM.setStock (i := i) (n := Kqv1.have_ m i + n)
          obtain ⟨dx2, hp2⟩ := hM2.ins
          have hg : (m.stock.set i (Kqv1.have_ m i + n))[i]? = some (Kqv1.have_ m i + n) := List.getElem?_set_self hi4
          refine ⟨_, rfl, p, t.cM, dx2, _, _, rfl, hp2, T.clM, T.n_stock, mf_stock, _, rfl, sa, _, _, _, rfl, rfl, SqL.of upd_same, atI_nat (iN_get hg), (by show 1 ≤ sizeLine; decide), fun r hr => ?_⟩
          have hst : Kqv1.step (some m) (.roll i n) = (some { m with stock := m.stock.set i (Kqv1.have_ m i + n) }, .num (Kqv1.have_ m i + n : Nat)) := by rw [step_roll, if_neg (by omega)]
          have sr := same_new (o := .lst [V.int ((Kqv1.have_ m i + n : Nat) : Int)]) hr
          refine D _ na pa sa r ?_ (.of fun b o hb h1 h2 h3 h4 => sr _ _ (at_upd hb h4)) ?_ (fun b o hb h1 h2 h3 h4 => ne_of_none (at_upd hb h4) hr)
          · rw [hst]
            exact .yes (hM2.same sr) hF.rolled
          · rw [hst, upd_same]
            rfl
theorem ok_lift (T : Txt K mg t) : FnOk P w K mg base CX0 3 t.f_lift t.d_lift ["mould", "numbers"] (sp_lift t) := by
  refine T.F_lift.ok sc_lift (fun vs H Q E h => ?_) (fun cdv A outer s H vs Q E hr h => ?_)
  · obtain ⟨_, _, _, _, _, _, _, rfl, _⟩ := h
    rfl
  · obtain ⟨n, p, l, na, pa, sa, m, rfl, hM, hF, hl, D⟩ := h
    have hu := hu_of hr
    refine ⟨_, (pss_cons (ps_set (i := 2) sc_lift.nd rfl (Or.inl rfl) (pe_ix ix_list (pv 1) pe_int (fun _ _ => rfl))) (pss_cons (ps_if (pt_cmp (pc_dnotin (by exact hu) (pv 2) (pe_fld (pv 0) rfl)) (by with_unfolding_all rfl)) (pss_one (ps_ret (pe_lst (pa_cons (pe_gint rfl T.c_NO_SUCH_PLY) pa_nil)))) pss_nil) (pss_one (ps_ret (pe_lst (pa_cons (pe_meth (pv 0) T.clM T.m_lift_ply (ok_lift_ply T) (hr.mono (by decide)) T.b_lift_ply .nil pass0 (pa_cons (pv 2) pa_nil)) pa_nil)))))), ?_⟩
    obtain ⟨dx, hp⟩ := hM.ins
    obtain ⟨es, hd, hpl, hperm⟩ := hM.plies
    refine ⟨_, rfl, l, _, _, _, rfl, rfl, SqL.of hl, at_of (j := 0) (v := .int (n : Int)) rfl rfl, ?_⟩
    refine ⟨_, rfl, _, rfl, p, t.cM, dx, _, _, rfl, hp, T.clM, T.n_plies, mf_plies, pa, _, rfl, DGet.k (k := Sum.inl (n : Int)) hd, _, rfl, ?_⟩
    rw [es_isSome hperm]
    cases hx : m.plies.getD n none with
    | none =>
      refine iteT (D.num hM hF (Same.refl _) ?_)
      show (match m.plies.getD n none with | none => _ | some x => _) = _
      rw [hx]
    | some x =>
      have hft : x.from_ < x.to := (hF.pv x (by rw [there_ent]; exact List.mem_map.mpr ⟨(n, x), ent_mem0.mpr hx, rfl⟩)).1
      refine iteF ⟨_, rfl, p, dx, _, rfl, hp, mf_no (by decide), _, rfl, p, na, pa, sa, m, n, x, rfl, hM, hx, Nat.le_of_lt hft, hF.lo, fun H1 hM1 fr => ⟨(by show 1 ≤ sizeLine; decide), fun r hr => ?_⟩⟩
      have hst : Kqv1.step (some m) (.lift n) = (some { m with plies := m.plies.set n none, used := m.used - Kqv1.long m x, scrap := m.scrap + Kqv1.long m x }, .num (Kqv1.long m x)) := by
        show (match m.plies.getD n none with | none => _ | some x => _) = _
        rw [hx]
      have sr := same_new (o := .lst [V.int (Kqv1.long m x : Int)]) hr
      refine D _ na pa sa r ?_ (.of fun b o hb h1 h2 h3 h4 => sr _ _ (fr _ _ hb h3 h1)) ?_ (fun b o hb h1 h2 h3 h4 => ne_of_none (fr _ _ hb h3 h1) hr)
      · rw [hst]
        exact .yes (hM1.same sr) (hF.lifted hx)
      · rw [hst, upd_same]
        rfl
theorem ok_missing (T : Txt K mg t) : FnOk P w K mg base CX0 4 t.f_missing t.d_missing ["mould", "numbers"] (sp_missing t) := by
  refine T.F_missing.ok sc_missing (fun vs H Q E h => ?_) (fun cdv A outer s H vs Q E hr h => ?_)
  · obtain ⟨_, _, _, _, _, _, _, rfl, _⟩ := h
    rfl
  · obtain ⟨i, p, l, na, pa, sa, m, rfl, hM, hF, hl, D⟩ := h
    have hu := hu_of hr
    refine ⟨_, (pss_cons (ps_set (i := 2) sc_missing.nd rfl (Or.inl rfl) (pe_ix ix_list (pv 1) pe_int (fun _ _ => rfl))) (pss_cons (ps_if (pt_not (pt_val (pe_meth (pv 0) T.clM T.m_has_station (ok_has_station T) (hr.mono (by decide)) T.b_has_station .nil pass0 (pa_cons (pv 2) pa_nil)))) (pss_one (ps_ret (pe_lst (pa_cons (pe_gint rfl T.c_WRONG_NUMBER) pa_nil)))) pss_nil) (pss_one (ps_ret (pe_lst (pa_cons (pe_meth (pv 0) T.clM T.m_missing_at (ok_missing_at T) (hr.mono (by decide)) T.b_missing_at .nil pass0 (pa_cons (pv 2) pa_nil)) pa_nil)))))), ?_⟩
    obtain ⟨dx, hp⟩ := hM.ins
    have hstep : Kqv1.step (some m) (.missing i) = (some m, if Kqv1.stations m ≤ i then .num (-22) else .num (Kqv1.missing m i)) := rfl
    refine ⟨_, rfl, l, _, _, _, rfl, rfl, SqL.of hl, at_of (j := 0) (v := .int (i : Int)) rfl rfl, ?_⟩
    refine ⟨_, rfl, p, dx, _, rfl, hp, mf_no (by decide), _, rfl, p, na, pa, sa, m, i, rfl, hM, _, rfl, ite2 (fun c1 => ?_) (fun c1 => ?_)⟩
    · have c1 : ¬ i < Kqv1.stations m := fun z => by rw [decide_eq_true z] at c1; cases c1
      exact D.num hM hF (Same.refl _) (by rw [hstep, if_pos (by omega)])
    · have hi : i < Kqv1.stations m := by
        by_cases z : i < Kqv1.stations m
        · exact z
        · rw [decide_eq_false z] at c1; exact absurd rfl c1
      exact ⟨_, rfl, p, dx, _, rfl, hp, mf_no (by decide), _, rfl, p, na, pa, sa, m, i, rfl, hM, hF, hi, fun H1 s1 => D.num hM hF s1 (by rw [hstep, if_neg (by omega)])⟩
theorem ok_lacks (T : Txt K mg t) : FnOk P w K mg base CX0 5 t.f_lacks t.d_lacks ["mould", "numbers"] (sp_lacks t) := by
  refine T.F_lacks.ok sc_lacks (fun vs H Q E h => ?_) (fun cdv A outer s H vs Q E hr h => ?_)
  · obtain ⟨_, _, _, _, _, _, rfl, _⟩ := h
    rfl
  · obtain ⟨p, l, na, pa, sa, m, rfl, hM, hF, hl, D⟩ := h
    have hu := hu_of hr
    refine ⟨_, (pss_one (ps_ret (pe_op op_cat (pe_lst (pa_cons (pe_meth0 (pv 0) T.clM T.m_station_count (ok_station_count T) (hr.mono (by decide)) T.b_station_count .nil pass0) pa_nil)) (pe_meth0 (pv 0) T.clM T.m_lacking (ok_lacking T) (hr.mono (by decide)) T.b_lacking .nil pass0)))), ?_⟩
    obtain ⟨dx, hp⟩ := hM.ins
    have h12 : Kqv1.stations m ≤ 12 := hF.sl
    refine ⟨_, rfl, p, dx, _, rfl, hp, mf_no (by decide), p, na, pa, sa, m, rfl, hM, (by show 1 ≤ sizeLine; decide), fun q hq => ?_⟩
    have s1 := same_new (o := .lst [V.int (Kqv1.stations m : Int)]) hq
    refine ⟨_, rfl, p, dx, _, rfl, s1 _ _ hp, mf_no (by decide), p, na, pa, sa, m, rfl, hM.same s1, hF, fun H2 q2 s2 hq2 => ⟨q, q2, _, _, rfl, rfl, s2 _ _ upd_same, hq2, ?_, fun r hr => ?_⟩⟩
    · rw [iN_len, lacks_len]
      exact Nat.le_of_lt (small64' (show 1 + Kqv1.stations m < 64 by omega))
    · refine D.reads hM hF (a := Kqv1.row (Kqv1.lacks m)) rfl ((s1.trans s2).trans (same_new hr)) upd_same ?_ ((s1.trans s2).free hr)
      show [V.int (Kqv1.stations m : Int)] ++ iN (Kqv1.lacks m) = _
      rw [← lacks_len]
      rfl
theorem ok_fewest (T : Txt K mg t) : FnOk P w K mg base CX0 5 t.f_fewest t.d_fewest ["mould", "numbers"] (sp_fewest t) := by
  refine T.F_fewest.ok sc_fewest (fun vs H Q E h => ?_) (fun cdv A outer s H vs Q E hr h => ?_)
  · obtain ⟨_, _, _, _, _, _, rfl, _⟩ := h
    rfl
  · obtain ⟨p, l, na, pa, sa, m, rfl, hM, hF, hl, D⟩ := h
    have hu := hu_of hr
    refine ⟨_, (pss_one (ps_ret (pe_lst (pa_cons (pe_call (ok_fewest_spans T) (hr.mono (by decide)) rfl T.g_fewest_spans T.F_fewest_spans.kp T.b_fewest_spans .nil pass0 (pa_cons (pe_meth0 (pv 0) T.clM T.m_lacking (ok_lacking T) (hr.mono (by decide)) T.b_lacking .nil pass0) pa_nil)) pa_nil)))), ?_⟩
    obtain ⟨dx, hp⟩ := hM.ins
    exact ⟨_, rfl, p, dx, _, rfl, hp, mf_no (by decide), p, na, pa, sa, m, rfl, hM, hF, fun H1 q s1 hq => ⟨q, _, rfl, hq, D.num hM hF s1 rfl⟩⟩
theorem ok_fabric (T : Txt K mg t) : FnOk P w K mg base CX0 6 t.f_fabric t.d_fabric ["mould", "numbers"] (sp_fabric t) := by
  refine T.F_fabric.ok sc_fabric (fun vs H Q E h => ?_) (fun cdv A outer s H vs Q E hr h => ?_)
  · obtain ⟨_, _, _, _, _, _, rfl, _⟩ := h
    rfl
  · obtain ⟨p, l, na, pa, sa, m, rfl, hM, hF, hl, D⟩ := h
    have hu := hu_of hr
    refine ⟨_, (pss_one (ps_ret (pe_lst (pa_cons (pe_meth0 (pv 0) T.clM T.m_planned_fabric (ok_planned_fabric T) (hr.mono (by decide)) T.b_planned_fabric .nil pass0) pa_nil)))), ?_⟩
    obtain ⟨dx, hp⟩ := hM.ins
    exact ⟨_, rfl, p, dx, _, rfl, hp, mf_no (by decide), p, na, pa, sa, m, rfl, hM, hF, fun H1 s1 => D.num hM hF s1 rfl⟩
theorem pairs_plies (m : Mould) (k : Nat) : pairs (Kqv1.plies m k) = Kqv1.plan m := by
  unfold pairs Kqv1.plies
  rw [List.map_map]
  exact List.map_id _
theorem ok_goes (T : Txt K mg t) : FnOk P w K mg base CX0 6 t.f_goes t.d_goes ["mould", "numbers"] (sp_goes t) := by
  refine T.F_goes.ok sc_goes (fun vs H Q E h => ?_) (fun cdv A outer s H vs Q E hr h => ?_)
  · obtain ⟨_, _, _, _, _, _, rfl, _⟩ := h
    rfl
  · obtain ⟨p, l, na, pa, sa, m, rfl, hM, hF, hl, D⟩ := h
    have hu := hu_of hr
    refine ⟨_, (pss_one (ps_ret (pe_lst (pa_cons (pe_ifExp (pt_val (pe_meth (pv 0) T.clM T.m_has_ends_for (ok_has_ends_for T) (hr.mono (by decide)) T.b_has_ends_for .nil pass0 (pa_cons (pe_meth0 (pv 0) T.clM T.m_planned (ok_planned T) (hr.mono (by decide)) T.b_planned .nil pass0) pa_nil))) pe_int pe_int) pa_nil)))), ?_⟩
    obtain ⟨dx, hp⟩ := hM.ins
    have hstep : Kqv1.step (some m) .goes = (some m, .num (if Kqv1.fitsEnds (Kqv1.with_ m (Kqv1.plies m 0)) then 1 else 0)) := rfl
    rw [fits_with, pairs_plies] at hstep
    refine ⟨_, rfl, p, dx, _, rfl, hp, mf_no (by decide), _, rfl, p, dx, _, rfl, hp, mf_no (by decide), p, na, pa, sa, m, rfl, hM, hF, fun H1 q s1 hq => ?_⟩
    refine ⟨p, na, pa, sa, q, m, Kqv1.plan m, rfl, hM.same s1, hF, hq, plan_ok m, Nat.le_trans (plan_small hF) (by decide), fun H2 s2 => ⟨_, rfl, ite2 (fun c1 => ?_) (fun c1 => ?_)⟩⟩
    · rw [c1] at hstep
      exact D.num hM hF (s1.trans s2) hstep
    · rw [if_neg c1] at hstep
      exact D.num hM hF (s1.trans s2) hstep
theorem ok_ends (T : Txt K mg t) : FnOk P w K mg base CX0 3 t.f_ends t.d_ends ["mould", "numbers"] (sp_ends t) := by
  refine T.F_ends.ok sc_ends (fun vs H Q E h => ?_) (fun cdv A outer s H vs Q E hr h => ?_)
  · obtain ⟨_, _, _, _, _, _, _, rfl, _⟩ := h
    rfl
  · obtain ⟨i, p, l, na, pa, sa, m, rfl, hM, hF, hl, D⟩ := h
    have hu := hu_of hr
    refine ⟨_, (pss_cons (ps_set (i := 2) sc_ends.nd rfl (Or.inl rfl) (pe_ix ix_list (pv 1) pe_int (fun _ _ => rfl))) (pss_cons (ps_if (pt_not (pt_val (pe_meth (pv 0) T.clM T.m_has_station (ok_has_station T) (hr.mono (by decide)) T.b_has_station .nil pass0 (pa_cons (pv 2) pa_nil)))) (pss_one (ps_ret (pe_lst (pa_cons (pe_gint rfl T.c_WRONG_NUMBER) pa_nil)))) pss_nil) (pss_one (ps_ret (pe_lst (pa_cons (pe_ix ix_list (pe_meth (pv 0) T.clM T.m_ends_with (ok_ends_with T) (hr.mono (by decide)) T.b_ends_with .nil pass0 (pa_cons (pe_lst pa_nil) pa_nil)) (pv 2) (fun _ _ => rfl)) pa_nil)))))), ?_⟩
    obtain ⟨dx, hp⟩ := hM.ins
    have hstep : Kqv1.step (some m) (.ends i) = (some m, if Kqv1.stations m ≤ i then .num (-22) else .num (Kqv1.endsAt m i)) := rfl
    refine ⟨_, rfl, l, _, _, _, rfl, rfl, SqL.of hl, at_of (j := 0) (v := .int (i : Int)) rfl rfl, ?_⟩
    refine ⟨_, rfl, p, dx, _, rfl, hp, mf_no (by decide), _, rfl, p, na, pa, sa, m, i, rfl, hM, _, rfl, ite2 (fun c1 => ?_) (fun c1 => ?_)⟩
    · have c1 : ¬ i < Kqv1.stations m := fun z => by rw [decide_eq_true z] at c1; cases c1
      exact D.num hM hF (Same.refl _) (by rw [hstep, if_pos (by omega)])
    · have hi : i < Kqv1.stations m := by
        by_cases z : i < Kqv1.stations m
        · exact z
        · rw [decide_eq_false z] at c1; exact absurd rfl c1
      have hg : (endsL m [])[i]? = some (Kqv1.endsAt m i) := by
        rw [← endsL_nil]
        exact rng_get hi
      refine ⟨_, rfl, p, dx, _, rfl, hp, mf_no (by decide), Nat.zero_le _, fun q hq => ⟨p, na, pa, sa, q, m, [], rfl, hM.same (same_new hq), hF, ⟨_, upd_same, .nil⟩, fun z hz => (by cases hz), Nat.zero_le _, fun H1 r s1 hr => ?_⟩⟩
      exact ⟨_, rfl, r, _, _, _, rfl, rfl, SqL.of hr, atI_nat (iN_get hg), D.num hM hF ((same_new hq).trans s1) (by rw [hstep, if_neg (by omega)])⟩
theorem ok_stack (T : Txt K mg t) : FnOk P w K mg base CX0 3 t.f_stack t.d_stack ["mould", "numbers"] (sp_stack t) := by
  refine T.F_stack.ok sc_stack (fun vs H Q E h => ?_) (fun cdv A outer s H vs Q E hr h => ?_)
  · obtain ⟨_, _, _, _, _, _, _, rfl, _⟩ := h
    rfl
  · obtain ⟨i, p, l, na, pa, sa, m, rfl, hM, hF, hl, D⟩ := h
    have hu := hu_of hr
    refine ⟨_, (pss_cons (ps_set (i := 2) sc_stack.nd rfl (Or.inl rfl) (pe_ix ix_list (pv 1) pe_int (fun _ _ => rfl))) (pss_cons (ps_if (pt_not (pt_val (pe_meth (pv 0) T.clM T.m_has_station (ok_has_station T) (hr.mono (by decide)) T.b_has_station .nil pass0 (pa_cons (pv 2) pa_nil)))) (pss_one (ps_ret (pe_lst (pa_cons (pe_gint rfl T.c_WRONG_NUMBER) pa_nil)))) pss_nil) (pss_cons (ps_set (i := 3) sc_stack.nd rfl (Or.inl rfl) (pe_meth (pv 0) T.clM T.m_stack_at (ok_stack_at T) (hr.mono (by decide)) T.b_stack_at .nil pass0 (pa_cons (pv 2) pa_nil))) (pss_one (ps_ret (pe_op op_cat (pe_lst (pa_cons (pe_callB call_len_seq rfl T.n_len PySem.boot_len (pa_cons (pv 3) pa_nil)) pa_nil)) (pv 3))))))), ?_⟩
    obtain ⟨dx, hp⟩ := hM.ins
    have hstep : Kqv1.step (some m) (.stack i) = (some m, if Kqv1.stations m ≤ i then .num (-22) else Kqv1.row (Kqv1.stack m i)) := rfl
    refine ⟨_, rfl, l, _, _, _, rfl, rfl, SqL.of hl, at_of (j := 0) (v := .int (i : Int)) rfl rfl, ?_⟩
    refine ⟨_, rfl, p, dx, _, rfl, hp, mf_no (by decide), _, rfl, p, na, pa, sa, m, i, rfl, hM, _, rfl, ite2 (fun c1 => ?_) (fun c1 => ?_)⟩
    · have c1 : ¬ i < Kqv1.stations m := fun z => by rw [decide_eq_true z] at c1; cases c1
      exact D.num hM hF (Same.refl _) (by rw [hstep, if_pos (by omega)])
    · have hi : i < Kqv1.stations m := by
        by_cases z : i < Kqv1.stations m
        · exact z
        · rw [decide_eq_false z] at c1; exact absurd rfl c1
      refine ⟨_, rfl, p, dx, _, rfl, hp, mf_no (by decide), _, rfl, p, na, pa, sa, m, i, rfl, hM, hF.l64, fun H1 q s1 hq => ?_⟩
      refine ⟨_, rfl, q, _, rfl, .inl (SqL.of hq), (by show 1 ≤ sizeLine; decide), fun q2 hq2 => ?_⟩
      have s2 := same_new (o := .lst [V.int ((iN (Kqv1.stack m i)).length : Int)]) hq2
      refine ⟨_, rfl, q2, q, _, _, rfl, rfl, upd_same, s2 _ _ hq, ?_, fun r hr => ?_⟩
      · rw [iN_len]
        have := stack_len m i
        have := hF.pl
        exact Nat.le_of_lt (small64' (show 1 + (Kqv1.stack m i).length < 64 by omega))
      · refine D.reads hM hF (a := Kqv1.row (Kqv1.stack m i)) (by rw [hstep, if_neg (by omega)]) ((s1.trans s2).trans (same_new hr)) upd_same ?_ ((s1.trans s2).free hr)
        rw [iN_len]
        rfl
theorem ok_alike (T : Txt K mg t) : FnOk P w K mg base CX0 4 t.f_alike t.d_alike ["mould", "numbers"] (sp_alike t) := by
  refine T.F_alike.ok sc_alike (fun vs H Q E h => ?_) (fun cdv A outer s H vs Q E hr h => ?_)
  · obtain ⟨_, _, _, _, _, _, _, rfl, _⟩ := h
    rfl
  · obtain ⟨i, p, l, na, pa, sa, m, rfl, hM, hF, hl, D⟩ := h
    have hu := hu_of hr
    refine ⟨_, (pss_cons (ps_set (i := 2) sc_alike.nd rfl (Or.inl rfl) (pe_ix ix_list (pv 1) pe_int (fun _ _ => rfl))) (pss_cons (ps_if (pt_not (pt_val (pe_meth (pv 0) T.clM T.m_has_station (ok_has_station T) (hr.mono (by decide)) T.b_has_station .nil pass0 (pa_cons (pv 2) pa_nil)))) (pss_one (ps_ret (pe_lst (pa_cons (pe_gint rfl T.c_WRONG_NUMBER) pa_nil)))) pss_nil) (pss_one (ps_ret (pe_lst (pa_cons (pe_meth (pv 0) T.clM T.m_alike_at (ok_alike_at T) (hr.mono (by decide)) T.b_alike_at .nil pass0 (pa_cons (pv 2) pa_nil)) pa_nil)))))), ?_⟩
    obtain ⟨dx, hp⟩ := hM.ins
    have hstep : Kqv1.step (some m) (.alike i) = (some m, if Kqv1.stations m ≤ i then .num (-22) else .num (Kqv1.alike m i)) := rfl
    refine ⟨_, rfl, l, _, _, _, rfl, rfl, SqL.of hl, at_of (j := 0) (v := .int (i : Int)) rfl rfl, ?_⟩
    refine ⟨_, rfl, p, dx, _, rfl, hp, mf_no (by decide), _, rfl, p, na, pa, sa, m, i, rfl, hM, _, rfl, ite2 (fun c1 => ?_) (fun c1 => ?_)⟩
    · have c1 : ¬ i < Kqv1.stations m := fun z => by rw [decide_eq_true z] at c1; cases c1
      exact D.num hM hF (Same.refl _) (by rw [hstep, if_pos (by omega)])
    · have hi : i < Kqv1.stations m := by
        by_cases z : i < Kqv1.stations m
        · exact z
        · rw [decide_eq_false z] at c1; exact absurd rfl c1
      exact ⟨_, rfl, p, dx, _, rfl, hp, mf_no (by decide), _, rfl, p, na, pa, sa, m, i, rfl, hM, hF.l64, fun H1 s1 => D.num hM hF s1 (by rw [hstep, if_neg (by omega)])⟩
theorem ok_stock (T : Txt K mg t) : FnOk P w K mg base CX0 1 t.f_stock t.d_stock ["mould", "numbers"] (sp_stock t) := by
  refine T.F_stock.ok sc_stock (fun vs H Q E h => ?_) (fun cdv A outer s H vs Q E hr h => ?_)
  · obtain ⟨_, _, _, _, _, _, _, rfl, _⟩ := h
    rfl
  · obtain ⟨i, p, l, na, pa, sa, m, rfl, hM, hF, hl, D⟩ := h
    have hu := hu_of hr
    refine ⟨_, (pss_cons (ps_set (i := 2) sc_stock.nd rfl (Or.inl rfl) (pe_ix ix_list (pv 1) pe_int (fun _ _ => rfl))) (pss_cons (ps_if (pt_cmpR op_ge (pv 2) (pe_gint rfl T.c_KINDS) (nomark _)) (pss_one (ps_ret (pe_lst (pa_cons (pe_gint rfl T.c_WRONG_NUMBER) pa_nil)))) pss_nil) (pss_one (ps_ret (pe_lst (pa_cons (pe_ix ix_list (pe_fld (pv 0) rfl) (pv 2) (fun _ _ => rfl)) pa_nil)))))), ?_⟩
    obtain ⟨dx, hp⟩ := hM.ins
    have hstep : Kqv1.step (some m) (.stock i) = (some m, if 4 ≤ i then .num (-22) else .num (Kqv1.have_ m i)) := rfl
    refine ⟨_, rfl, l, _, _, _, rfl, rfl, SqL.of hl, at_of (j := 0) (v := .int (i : Int)) rfl rfl, ?_⟩
    refine ⟨_, rfl, _, _, rfl, rfl, _, rfl, ite2 (fun c1 => ?_) (fun c1 => ?_)⟩
    · have c1 : 4 ≤ i := by have := of_decide_eq_true c1; omega
      exact D.num hM hF (Same.refl _) (by rw [hstep, if_pos c1])
    · have hi : i < 4 := Nat.lt_of_not_le fun z => c1 (decide_eq_true (by omega))
      exact ⟨_, rfl, p, t.cM, dx, _, _, rfl, hp, T.clM, T.n_stock, mf_stock, _, rfl, sa, _, _, _, rfl, rfl, SqL.of hM.stock, atI_nat (iN_get (stock_get (by rw [hF.s4]; exact hi))), D.num hM hF (Same.refl _) (by rw [hstep, if_neg (by omega)])⟩
theorem ok_metres (T : Txt K mg t) : FnOk P w K mg base CX0 3 t.f_metres t.d_metres ["mould", "numbers"] (sp_metres t) := by
  refine T.F_metres.ok sc_metres (fun vs H Q E h => ?_) (fun cdv A outer s H vs Q E hr h => ?_)
  · obtain ⟨_, _, _, _, _, _, rfl, _⟩ := h
    rfl
  · obtain ⟨p, l, na, pa, sa, m, rfl, hM, hF, hl, D⟩ := h
    have hu := hu_of hr
    refine ⟨_, (pss_one (ps_ret (pe_lst (pa_cons (pe_callB (cr_sum rfl) rfl T.n_sum PyProof.Rows.boot_sum (pa_cons (pe_fld (pv 0) rfl) pa_nil)) (pa_cons (pe_meth0 (pv 0) T.clM T.m_fabric_in_plies (ok_fabric_in_plies T) (hr.mono (by decide)) T.b_fabric_in_plies .nil pass0) (pa_cons (pe_fld (pv 0) rfl) pa_nil)))))), ?_⟩
    obtain ⟨dx, hp⟩ := hM.ins
    refine ⟨_, rfl, p, t.cM, dx, _, _, rfl, hp, T.clM, T.n_stock, mf_stock, sa, _, rfl, SqL.of hM.stock, _, rfl, p, dx, _, rfl, hp, mf_no (by decide), p, na, pa, sa, m, rfl, hM, hF, fun H1 s1 => ?_⟩
    refine ⟨_, rfl, p, t.cM, dx, _, _, rfl, s1 _ _ hp, T.clM, T.n_scrap, mf_scrap, (by show 3 ≤ sizeLine; decide), fun r hr => ?_⟩
    refine D.reads hM hF (a := .some_ (Kqv1.sum m.stock : Nat) [m.used, m.scrap]) rfl (s1.trans (same_new hr)) upd_same ?_ (s1.free hr)
    rw [iN_sum]
    rfl
theorem ok_state (T : Txt K mg t) : FnOk P w K mg base CX0 2 t.f_state t.d_state ["mould", "numbers"] (sp_state t) := by
  refine T.F_state.ok sc_state (fun vs H Q E h => ?_) (fun cdv A outer s H vs Q E hr h => ?_)
  · obtain ⟨_, _, _, _, _, _, rfl, _⟩ := h
    rfl
  · obtain ⟨p, l, na, pa, sa, m, rfl, hM, hF, hl, D⟩ := h
    have hu := hu_of hr
    refine ⟨_, (pss_one (ps_ret (pe_lst (pa_cons (pe_meth0 (pv 0) T.clM T.m_station_count (ok_station_count T) (hr.mono (by decide)) T.b_station_count .nil pass0) (pa_cons (pe_fld (pv 0) rfl) (pa_cons (pe_fld (pv 0) rfl) (pa_cons (pe_callB call_lenD rfl T.n_len PySem.boot_len (pa_cons (pe_fld (pv 0) rfl) pa_nil)) pa_nil))))))), ?_⟩
    obtain ⟨dx, hp⟩ := hM.ins
    obtain ⟨es, hd, hpl, hperm⟩ := hM.plies
    refine ⟨_, rfl, p, dx, _, rfl, hp, mf_no (by decide), p, na, pa, sa, m, rfl, hM, _, rfl, p, t.cM, dx, _, _, rfl, hp, T.clM, T.n_long, mf_long, _, rfl, p, t.cM, dx, _, _, rfl, hp, T.clM, T.n_most_ends, mf_most,
      _, rfl, p, t.cM, dx, _, _, rfl, hp, T.clM, T.n_plies, mf_plies, pa, _, rfl, hd, (by show 4 ≤ sizeLine; decide), fun r hr => ?_⟩
    refine D.reads hM hF (a := .some_ (Kqv1.stations m) [m.long, m.ends, (Kqv1.there m).length]) rfl (same_new hr) upd_same ?_ hr
    rw [kvs_len, es_len hperm]
    rfl
theorem ok_swap (T : Txt K mg t) : FnOk P w K mg base CX0 2 t.f_swap t.d_swap ["mould", "numbers"] (sp_swap t) := by
  refine T.F_swap.ok sc_swap (fun vs H Q E h => ?_) (fun cdv A outer s H vs Q E hr h => ?_)
  · obtain ⟨_, _, _, _, _, _, _, _, rfl, _⟩ := h
    rfl
  · obtain ⟨n, k, p, l, na, pa, sa, m, rfl, hM, hF, hl, D⟩ := h
    have hu := hu_of hr
    refine ⟨_, (pss_cons (ps_set (i := 2) sc_swap.nd rfl (Or.inl rfl) (pe_ix ix_list (pv 1) pe_int (fun _ _ => rfl))) (pss_cons (ps_set (i := 3) sc_swap.nd rfl (Or.inl rfl) (pe_ix ix_list (pv 1) pe_int (fun _ _ => rfl))) (pss_cons (ps_if (PW.pt (pw_or (pt_cmp (pc_dnotin (by exact hu) (pv 2) (pe_fld (pv 0) rfl)) (by with_unfolding_all rfl)) (pw_or1 (pt_cmp (pc_dnotin (by exact hu) (pv 3) (pe_fld (pv 0) rfl)) (by with_unfolding_all rfl))))) (pss_one (ps_ret (pe_lst (pa_cons (pe_gint rfl T.c_NO_SUCH_PLY) pa_nil)))) pss_nil) (pss_cons (ps_if (pt_cmpR op_eq (pv 2) (pv 3) (nomark _)) (pss_one (ps_ret (pe_lst (pa_cons (pe_gint rfl T.c_WRONG_NUMBER) pa_nil)))) pss_nil) (pss_cons (ps_expr (pe_meth (pv 0) T.clM T.m_swap_plies (ok_swap_plies T) (hr.mono (by decide)) T.b_swap_plies .nil pass0 (pa_cons (pv 2) (pa_cons (pv 3) pa_nil)))) (pss_one (ps_ret (pe_lst (pa_cons pe_int pa_nil))))))))), ?_⟩
    obtain ⟨dx, hp⟩ := hM.ins
    obtain ⟨es, hd, hpl, hperm⟩ := hM.plies
    refine ⟨_, rfl, l, _, _, _, rfl, rfl, SqL.of hl, at_of (j := 0) (v := .int (n : Int)) rfl rfl, _, rfl, l, _, _, _, rfl, rfl, SqL.of hl, at_of (j := 1) (v := .int (k : Int)) rfl rfl, ?_⟩
    refine ⟨_, rfl, _, rfl, p, t.cM, dx, _, _, rfl, hp, T.clM, T.n_plies, mf_plies, pa, _, rfl, DGet.k (k := Sum.inl (n : Int)) hd, _, rfl, ?_⟩
    rw [es_isSome hperm]
    cases hx : m.plies.getD n none with
    | none =>
      refine iteT (iteT (D.num hM hF (Same.refl _) ?_))
      show (match m.plies.getD n none, m.plies.getD k none with | some x, some y => _ | _, _ => _) = _
      rw [hx]
    | some x =>
      refine iteF ⟨_, rfl, _, rfl, p, t.cM, dx, _, _, rfl, hp, T.clM, T.n_plies, mf_plies, pa, _, rfl, DGet.k (k := Sum.inl (k : Int)) hd, _, rfl, ?_⟩
      rw [es_isSome hperm]
      cases hy : m.plies.getD k none with
      | none =>
        refine iteT (D.num hM hF (Same.refl _) ?_)
        show (match m.plies.getD n none, m.plies.getD k none with | some x, some y => _ | _, _ => _) = _
        rw [hx, hy]
      | some y =>
        have hstep : Kqv1.step (some m) (.swap n k) = if n = k then (some m, .num (-22)) else (some { m with plies := (m.plies.set n (some y)).set k (some x) }, .num 0) := by
          show (match m.plies.getD n none, m.plies.getD k none with | some x, some y => _ | _, _ => _) = _
          rw [hx, hy]
        refine iteF ⟨_, rfl, _, rfl, rfl, _, rfl, ite2 (fun c1 => ?_) (fun c1 => ?_)⟩
        · have c1 : n = k := by have := of_decide_eq_true c1; injection this with this; omega
          exact D.num hM hF (Same.refl _) (by rw [hstep, if_pos c1])
        · have c1 : n ≠ k := fun z => c1 (by subst z; exact decide_eq_true rfl)
          refine ⟨_, rfl, p, dx, _, rfl, hp, mf_no (by decide), _, rfl, _, rfl, p, na, pa, sa, m, n, k, x, y, rfl, hM, hx, hy, c1, Nat.le_trans hF.pl (by decide), fun H1 hM1 fr => ⟨(by show 1 ≤ sizeLine; decide), fun r hr => ?_⟩⟩
          rw [if_neg c1] at hstep
          have sr := same_new (o := .lst [V.int 0]) hr
          refine D _ na pa sa r ?_ (.of fun b o hb h1 h2 h3 h4 => sr _ _ (fr _ _ hb h3)) ?_ (fun b o hb h1 h2 h3 h4 => ne_of_none (fr _ _ hb h3) hr)
          · rw [hstep]
            exact .yes (hM1.same sr) (hF.swapped hx hy c1)
          · rw [hstep, upd_same]
            rfl
end
end Bm
end
section
set_option Elab.async false
set_option linter.all false
set_option maxRecDepth 100000
set_option maxHeartbeats 4000000
namespace Bm
open PySem PySem.Spec PyProof.Rows L2
open Kqv1 (Ply Mould)
section
variable {P : Program} {w : World} {K : PySem.W.Frag} {mg : Str → Option Value} {base : Heap} {t : Adr}
section
variable {t : Adr} {H H1 : Hp} {p na pa sa : Addr} {Q : VK} {s : Option Mould} {c : Kqv1.Call}
theorem MSt.same (h : MSt t H p na pa sa s) (e : Same H H1) : MSt t H1 p na pa sa s := by
  cases h with
  | no h => exact .no (h.same e)
  | yes h hF => exact .yes (h.same e) hF
theorem MSt.ins (h : MSt t H p na pa sa s) : ∃ dx L E S, H p = some (.ins t.cM dx (mfs L E na pa sa S)) := by
  cases h with
  | no h => obtain ⟨dx, h⟩ := h.ins; exact ⟨dx, _, _, _, h⟩
  | yes h hF => obtain ⟨dx, h⟩ := h.ins; exact ⟨dx, _, _, _, h⟩
theorem Done.ref {v : Int} (D : Done t H p na pa sa Q s c) (hs : MSt t H p na pa sa s) (e : Same H H1) (hst : Kqv1.step s c = (s, .num v)) :
    1 ≤ sizeLine ∧ ∀ r, H1 r = none → Q (.ref r) (upd H1 r (.lst [.int v])) := by
  refine ⟨by decide, fun r hr => D _ na pa sa r ?_ (.of_same (e.trans (same_new hr))) ?_ (fun b o hb _ _ _ _ => ne_of_none hb (e.free hr))⟩
  · rw [hst]; exact hs.same (e.trans (same_new hr))
  · rw [hst, upd_same]; rfl
end
theorem step_start (s : Option Mould) (l e : Nat) (n : List Nat) : Kqv1.step s (.start l e n) = if l = 0 ∨ 100 < l ∨ e = 0 ∨ 20 < e ∨ n = [] ∨ 12 < n.length ∨ n.any (fun x => decide (12 < x)) = true then (s, .num (-22)) else (some ⟨l, e, n, [], [0, 0, 0, 0], 0, 0⟩, .num n.length) := by
  cases s <;> rfl
theorem cut3 (L E c : Nat) (need : List Nat) : cutV (iN (L :: E :: c :: need)) (some 3) none = iN need := by
  have h : HT.sIx (iN (L :: E :: c :: need)).length 0 (some 3) = 3 := by
    have := HT.sIx_nat (iN (L :: E :: c :: need)).length 0 3
    refine this.trans ?_
    rw [iN_len]
    simp
  unfold cutV
  rw [h, HT.sIx_none, iN_len]
  show (iN need).take (need.length + 1 + 1 + 1 - 3) = iN need
  rw [List.take_of_length_le]
  rw [iN_len]
  omega
theorem ok_start (T : Txt K mg t) : FnOk P w K mg base CX0 2 t.f_start t.d_start ["mould", "numbers"] (sp_start t) := by
  refine T.F_start.ok sc_start (fun vs H Q E h => ?_) (fun cdv A outer s H vs Q E hr h => ?_)
  · obtain ⟨_, _, _, _, _, _, _, _, _, _, rfl, _⟩ := h
    rfl
  · obtain ⟨p, l, na, pa, sa, s0, L, E', c, need, rfl, hs, hl, h60, D⟩ := h
    have hu := hu_of hr
    refine ⟨_, (pss_cons (ps_set (i := 2) sc_start.nd rfl (Or.inl rfl) (pe_ix ix_list (pv 1) pe_int (fun _ _ => rfl))) (pss_cons (ps_set (i := 3) sc_start.nd rfl (Or.inl rfl) (pe_ix ix_list (pv 1) pe_int (fun _ _ => rfl))) (pss_cons (ps_set (i := 4) sc_start.nd rfl (Or.inl rfl) (pe_slice sl_list (pv 1) (po_some pe_int) po_none)) (pss_cons (ps_if (PW.pt (pw_or (pt_not (pt_chain op_le op_le pe_int (pv 2) (pe_gint rfl T.c_LONGEST))) (pw_or1 (pt_not (pt_chain op_le op_le pe_int (pv 3) (pe_gint rfl T.c_MOST_ENDS)))))) (pss_one (ps_ret (pe_lst (pa_cons (pe_gint rfl T.c_WRONG_NUMBER) pa_nil)))) pss_nil) (pss_cons (ps_if (PW.pt (pw_or (pt_not (pt_chain op_le op_le pe_int (pe_callB call_len_seq rfl T.n_len PySem.boot_len (pa_cons (pv 4) pa_nil)) (pe_gint rfl T.c_MOST_STATIONS))) (pw_or1 (pt_cmpR op_gt (pe_callB (cr_max rfl) rfl T.n_max PyProof.Rows.boot_max (pa_cons (pv 4) pa_nil)) (pe_gint rfl T.c_MOST_NEEDED) (nomark _))))) (pss_one (ps_ret (pe_lst (pa_cons (pe_gint rfl T.c_WRONG_NUMBER) pa_nil)))) pss_nil) (pss_cons (ps_expr (pe_meth (pv 0) T.clM T.m_begin (ok_begin T) (hr.mono (by decide)) T.b_begin .nil pass0 (pa_cons (pv 2) (pa_cons (pv 3) (pa_cons (pv 4) pa_nil))))) (pss_one (ps_ret (pe_lst (pa_cons (pe_meth0 (pv 0) T.clM T.m_station_count (ok_station_count T) (hr.mono (by decide)) T.b_station_count .nil pass0) pa_nil)))))))))), ?_⟩
    obtain ⟨dx, L0, E0, S0, hp⟩ := hs.ins
    refine ⟨_, rfl, l, _, _, _, rfl, rfl, SqL.of hl, at_of (j := 0) (v := .int (L : Int)) rfl rfl, _, rfl, l, _, _, _, rfl, rfl, SqL.of hl, at_of (j := 1) (v := .int (E' : Int)) rfl rfl, _, rfl, 3, rfl, l, _, rfl, SqL.of hl, fun q hq => ?_⟩
    rw [cut3]
    have s1 := same_new (o := .lst (iN need)) hq
    -- the first test
    suffices rest : (¬ (L = 0 ∨ 100 < L ∨ E' = 0 ∨ 20 < E')) → _ from by
      refine ⟨_, rfl, _, _, rfl, rfl, _, rfl, ite2 (fun c1 => ?_) (fun c1 => ?_)⟩
      · have c1 : 1 ≤ L := by have := of_decide_eq_true c1; omega
        refine ⟨_, _, rfl, rfl, _, rfl, ite2 (fun c2 => ?_) (fun c2 => ?_)⟩
        · have c2 : ¬ L ≤ 100 := fun z => by rw [decide_eq_true (by omega)] at c2; cases c2
          exact D.ref hs s1 (by rw [step_start, if_pos (by omega)])
        · have c2 : L ≤ 100 := by
            by_cases z : L ≤ 100
            · exact z
            · rw [decide_eq_false (by omega)] at c2; exact absurd rfl c2
          refine ⟨_, rfl, _, _, rfl, rfl, _, rfl, ite2 (fun c3 => ?_) (fun c3 => ?_)⟩
          · have c3 : 1 ≤ E' := by have := of_decide_eq_true c3; omega
            refine ⟨_, _, rfl, rfl, _, rfl, ite2 (fun c4 => ?_) (fun c4 => ?_)⟩
            · have c4 : ¬ E' ≤ 20 := fun z => by rw [decide_eq_true (by omega)] at c4; cases c4
              exact D.ref hs s1 (by rw [step_start, if_pos (by omega)])
            · have c4 : E' ≤ 20 := by
                by_cases z : E' ≤ 20
                · exact z
                · rw [decide_eq_false (by omega)] at c4; exact absurd rfl c4
              exact rest (by omega)
          · have c3 : ¬ 1 ≤ E' := fun z => c3 (decide_eq_true (by omega))
            exact ⟨false, rfl, D.ref hs s1 (by rw [step_start, if_pos (by omega)])⟩
      · have c1 : ¬ 1 ≤ L := fun z => c1 (decide_eq_true (by omega))
        exact ⟨false, rfl, D.ref hs s1 (by rw [step_start, if_pos (by omega)])⟩
    intro hLE
    refine ⟨_, rfl, q, _, rfl, .inl (SqL.of upd_same), _, _, rfl, rfl, _, rfl, ite2 (fun c1 => ?_) (fun c1 => ?_)⟩
    · rw [iN_len] at c1
      have c1 : 1 ≤ need.length := by have := of_decide_eq_true c1; omega
      refine ⟨_, _, rfl, rfl, _, rfl, ite2 (fun c2 => ?_) (fun c2 => ?_)⟩
      · rw [iN_len] at c2
        have c2 : ¬ need.length ≤ 12 := fun z => by rw [decide_eq_true (by omega)] at c2; cases c2
        exact D.ref hs s1 (by rw [step_start, if_pos (.inr (.inr (.inr (.inr (.inr (.inl (by omega)))))))])
      · rw [iN_len] at c2
        have c2 : need.length ≤ 12 := by
          by_cases z : need.length ≤ 12
          · exact z
          · rw [decide_eq_false (by omega)] at c2; exact absurd rfl c2
        refine ⟨_, rfl, q, need.map Int.ofNat, rfl, SqL.of upd_same, (by rw [List.length_map]; omega), fun mx h1 h2 => ⟨_, _, rfl, rfl, _, rfl, ite2 (fun c3 => ?_) (fun c3 => ?_)⟩⟩
        · have c3 : (12 : Int) < mx := of_decide_eq_true c3
          obtain ⟨x, hx, ex⟩ := List.mem_map.mp h1
          have ex : (x : Int) = mx := ex
          exact D.ref hs s1 (by rw [step_start, if_pos (.inr (.inr (.inr (.inr (.inr (.inr (List.any_eq_true.mpr ⟨x, hx, decide_eq_true (by omega)⟩)))))))])
        · have c3 : ¬ (12 : Int) < mx := fun z => c3 (decide_eq_true z)
          have hall : ∀ x ∈ need, x ≤ 12 := fun x hx => by
            have : (x : Int) ≤ mx := h2 _ (List.mem_map.mpr ⟨x, hx, rfl⟩)
            omega
          have hne : need ≠ [] := fun z => by rw [z] at c1; exact absurd c1 (by decide)
          have hst : Kqv1.step s0 (.start L E' need) = (some ⟨L, E', need, [], [0, 0, 0, 0], 0, 0⟩, .num need.length) := by
            rw [step_start, if_neg]
            rintro (z | z | z | z | z | z | z)
            · omega
            · omega
            · omega
            · omega
            · exact hne z
            · omega
            · obtain ⟨x, hx, z⟩ := List.any_eq_true.mp z
              have := hall x hx
              have := of_decide_eq_true z
              omega
          refine ⟨_, rfl, p, dx, _, rfl, s1 _ _ hp, mf_no (by decide), _, rfl, _, rfl, _, rfl, p, q, dx, _, L, E', need, rfl, s1 _ _ hp, .inr ⟨_, _, _, _, _, _, rfl⟩, upd_same, fun H2 na' pa' sa' hM1 f1 f2 f3 fr => ?_⟩
          obtain ⟨dx2, hp2⟩ := hM1.ins
          refine ⟨_, rfl, p, dx2, _, rfl, hp2, mf_no (by decide), p, na', pa', sa', _, rfl, hM1, (by show 1 ≤ sizeLine; decide), fun r hr => ?_⟩
          have sr := same_new (o := .lst [V.int (Kqv1.stations ⟨L, E', need, [], [0, 0, 0, 0], 0, 0⟩ : Nat)]) hr
          refine D _ na' pa' sa' r ?_ ⟨fun b o hb h1 h2 h3 h4 => ⟨sr _ _ (fr _ _ (s1 _ _ hb) h1), ne_of_none (s1 _ _ hb) f1, ne_of_none (s1 _ _ hb) f2, ne_of_none (s1 _ _ hb) f3⟩⟩ ?_ (fun b o hb h1 h2 h3 h4 => ne_of_none (fr _ _ (s1 _ _ hb) h1) hr)
          · rw [hst]
            exact .yes (hM1.same sr) (.begun (by omega) hne c2 hall)
          · rw [hst, upd_same]
            rfl
    · rw [iN_len] at c1
      have c1 : ¬ 1 ≤ need.length := fun z => c1 (decide_eq_true (by omega))
      have hne : need = [] := List.length_eq_zero_iff.mp (by omega)
      exact ⟨false, rfl, D.ref hs s1 (by rw [step_start, if_pos (.inr (.inr (.inr (.inr (.inl hne)))))])⟩
end
end Bm
end
section
set_option Elab.async false
set_option linter.all false
set_option maxRecDepth 100000
set_option maxHeartbeats 4000000
namespace Bm
open PySem PySem.Spec PyProof.Rows L2
open Kqv1 (Ply Mould)
section
variable {P : Program} {w : World} {K : PySem.W.Frag} {mg : Str → Option Value} {base : Heap} {t : Adr}
theorem step_lay (m : Mould) (a b k : Nat) : Kqv1.step (some m) (.lay a b k) = if Kqv1.okPly m ⟨a, b, k⟩ = false then (some m, .num (-22)) else if Kqv1.room m ⟨a, b, k⟩ = false then (some m, .num (-62)) else if Kqv1.fitsEnds (Kqv1.with_ m [⟨a, b, k⟩]) = false then (some m, .num (-13)) else if Kqv1.have_ m k < (b - a) * m.long then (some m, .num (-12)) else if Kqv1.PLIES ≤ (Kqv1.there m).length then (some m, .num (-28)) else (some (Kqv1.laid m ⟨a, b, k⟩), .num (Kqv1.slot m.plies)) := rfl
theorem okPly_iff (m : Mould) (a b k : Nat) : Kqv1.okPly m ⟨a, b, k⟩ = true ↔ a < b ∧ b ≤ Kqv1.stations m ∧ k < 4 := by
  unfold Kqv1.okPly
  simp [and_assoc]
theorem cut_ab {l : List Nat} {a b : Nat} (h1 : a < b) (h2 : b ≤ l.length) : cutV (iN l) (some (a : Int)) (some (b : Int)) = iN ((l.drop a).take (b - a)) := by
  unfold cutV
  rw [HT.sIx_nat, HT.sIx_nat, iN_len, Nat.min_eq_left h2, Nat.min_eq_left (show a ≤ l.length by omega)]
  unfold iN
  simp [List.map_drop, List.map_take]
theorem ok_lay (T : Txt K mg t) : FnOk P w K mg base CX0 5 t.f_lay t.d_lay ["mould", "numbers"] (sp_lay t) := by
  refine T.F_lay.ok sc_lay (fun vs H Q E h => ?_) (fun cdv A outer s H vs Q E hr h => ?_)
  · obtain ⟨_, _, _, _, _, _, _, _, _, rfl, _⟩ := h
    rfl
  · obtain ⟨a, b, k, p, l, na, pa, sa, m, rfl, hM, hF, hl, D⟩ := h
    have hu := hu_of hr
    refine ⟨_, (pss_cons (ps_set (i := 2) sc_lay.nd rfl (Or.inl rfl) (pe_make T.mkPly (ok_init_Ply T) (hr.mono (by decide)) rfl T.g_Ply T.b_init_Ply .nil pass0 (pa_cons (pe_ix ix_list (pv 1) pe_int (fun _ _ => rfl)) (pa_cons (pe_ix ix_list (pv 1) pe_int (fun _ _ => rfl)) (pa_cons (pe_ix ix_list (pv 1) pe_int (fun _ _ => rfl)) pa_nil))))) (pss_cons (ps_if (PW.pt (pw_or (pt_cmpR op_ge (pe_fld (pv 2) rfl) (pe_fld (pv 2) rfl) (nomark _)) (pw_or (pt_cmpR op_gt (pe_fld (pv 2) rfl) (pe_meth0 (pv 0) T.clM T.m_station_count (ok_station_count T) (hr.mono (by decide)) T.b_station_count .nil pass0) (nomark _)) (pw_or1 (pt_cmpR op_ge (pe_fld (pv 2) rfl) (pe_gint rfl T.c_KINDS) (nomark _)))))) (pss_one (ps_ret (pe_lst (pa_cons (pe_gint rfl T.c_WRONG_NUMBER) pa_nil)))) pss_nil) (pss_cons (ps_if (pt_cmpR op_eq (pe_callB (cr_min rfl) rfl T.n_min PyProof.Rows.boot_min (pa_cons (pe_slice sl_list (pe_meth0 (pv 0) T.clM T.m_lacking (ok_lacking T) (hr.mono (by decide)) T.b_lacking .nil pass0) (po_some (pe_fld (pv 2) rfl)) (po_some (pe_fld (pv 2) rfl))) pa_nil)) pe_int (nomark _)) (pss_one (ps_ret (pe_lst (pa_cons (pe_gint rfl T.c_NOTHING_MISSING) pa_nil)))) pss_nil) (pss_cons (ps_if (pt_not (pt_val (pe_meth (pv 0) T.clM T.m_has_ends_for (ok_has_ends_for T) (hr.mono (by decide)) T.b_has_ends_for .nil pass0 (pa_cons (pe_lst (pa_cons (pe_tup (pa_cons (pe_fld (pv 2) rfl) (pa_cons (pe_fld (pv 2) rfl) pa_nil))) pa_nil)) pa_nil)))) (pss_one (ps_ret (pe_lst (pa_cons (pe_gint rfl T.c_TOO_MANY_ENDS) pa_nil)))) pss_nil) (pss_cons (ps_if (pt_cmpR op_gt (pe_meth (pv 0) T.clM T.m_fabric_of (ok_fabric_of T) (hr.mono (by decide)) T.b_fabric_of .nil pass0 (pa_cons (pv 2) pa_nil)) (pe_ix ix_list (pe_fld (pv 0) rfl) (pe_fld (pv 2) rfl) (fun _ _ => rfl)) (nomark _)) (pss_one (ps_ret (pe_lst (pa_cons (pe_gint rfl T.c_TOO_LITTLE_FABRIC) pa_nil)))) pss_nil) (pss_cons (ps_if (pt_cmpR op_ge (pe_callB call_lenD rfl T.n_len PySem.boot_len (pa_cons (pe_fld (pv 0) rfl) pa_nil)) (pe_gint rfl T.c_MOST_PLIES) (nomark _)) (pss_one (ps_ret (pe_lst (pa_cons (pe_gint rfl T.c_TOO_MANY_PLIES) pa_nil)))) pss_nil) (pss_one (ps_ret (pe_lst (pa_cons (pe_meth (pv 0) T.clM T.m_lay_ply (ok_lay_ply T) (hr.mono (by decide)) T.b_lay_ply .nil pass0 (pa_cons (pv 2) pa_nil)) pa_nil)))))))))), ?_⟩
    obtain ⟨dx, hp⟩ := hM.ins
    obtain ⟨es, hd, hpl, hperm⟩ := hM.plies
    refine ⟨_, rfl, l, _, _, _, rfl, rfl, SqL.of hl, at_of (j := 0) (v := .int (a : Int)) rfl rfl, _, rfl, l, _, _, _, rfl, rfl, SqL.of hl, at_of (j := 1) (v := .int (b : Int)) rfl rfl, _, rfl, l, _, _, _, rfl, rfl, SqL.of hl, at_of (j := 2) (v := .int (k : Int)) rfl rfl, fun x d1 n0 n1 n2 => ⟨x, d1, a, b, k, rfl, upd_same, fun H1 hA fr => ⟨rfl, ?_⟩⟩⟩
    have s1 : Same H H1 := Same.made n0 n1 fr
    obtain ⟨da, hx⟩ := hA
    have hM1 := hM.same s1
    have bad : ¬ (a < b ∧ b ≤ Kqv1.stations m ∧ k < 4) → Kqv1.step (some m) (.lay a b k) = (some m, .num (-22)) := fun z => by
      rw [step_lay, if_pos]
      cases e : Kqv1.okPly m ⟨a, b, k⟩ with
      | false => rfl
      | true => exact absurd ((okPly_iff m a b k).mp e) z
    refine ⟨_, rfl, x, t.cP, da, _, _, rfl, hx, T.clP, T.n_first, pf_first, _, rfl, x, t.cP, da, _, _, rfl, hx, T.clP, T.n_behind, pf_behind, _, _, rfl, rfl, _, rfl, ite2 (fun c1 => ?_) (fun c1 => ?_)⟩
    · have c1 : b ≤ a := by have := of_decide_eq_true c1; have h : ((⟨a, b, k⟩ : Ply).to : Int) ≤ ((⟨a, b, k⟩ : Ply).from_ : Int) := this; have h : (b : Int) ≤ (a : Int) := h; omega
      exact D.num hM hF s1 (bad (by omega))
    · have hab : a < b := Nat.lt_of_not_le fun z => c1 (decide_eq_true (by show (b : Int) ≤ (a : Int); omega))
      refine ⟨_, rfl, x, t.cP, da, _, _, rfl, hx, T.clP, T.n_behind, pf_behind, _, rfl, p, dx, _, rfl, s1 _ _ hp, mf_no (by decide), p, na, pa, sa, m, rfl, hM1, _, _, rfl, rfl, _, rfl, ite2 (fun c2 => ?_) (fun c2 => ?_)⟩
      · have c2 : Kqv1.stations m < b := by have h : (Kqv1.stations m : Int) < (b : Int) := of_decide_eq_true c2; omega
        exact D.num hM hF s1 (bad (by omega))
      · have hb : b ≤ Kqv1.stations m := Nat.le_of_not_lt fun z => c2 (decide_eq_true (by show (Kqv1.stations m : Int) < (b : Int); omega))
        refine ⟨_, rfl, x, t.cP, da, _, _, rfl, hx, T.clP, T.n_kind, pf_kind, _, _, rfl, rfl, _, rfl, ite2 (fun c3 => ?_) (fun c3 => ?_)⟩
        · have c3 : 4 ≤ k := by have h : (4 : Int) ≤ (k : Int) := of_decide_eq_true c3; omega
          exact D.num hM hF s1 (bad (by omega))
        · have hk : k < 4 := Nat.lt_of_not_le fun z => c3 (decide_eq_true (by show (4 : Int) ≤ (k : Int); omega))
          have ok : Kqv1.okPly m ⟨a, b, k⟩ = true := (okPly_iff m a b k).mpr ⟨hab, hb, hk⟩
          have hbl : b ≤ (Kqv1.lacks m).length := by rw [lacks_len]; exact hb
          -- nothing is missing
          refine ⟨_, rfl, p, dx, _, rfl, s1 _ _ hp, mf_no (by decide), p, na, pa, sa, m, rfl, hM1, hF, fun H2 q s2 hq => ?_⟩
          have hx2 := s2 _ _ hx
          have s12 := s1.trans s2
          refine ⟨_, rfl, x, t.cP, da, _, _, rfl, hx2, T.clP, T.n_first, pf_first, (a : Int), rfl, _, rfl, x, t.cP, da, _, _, rfl, hx2, T.clP, T.n_behind, pf_behind, (b : Int), rfl, q, _, rfl, SqL.of hq, fun c hc => ?_⟩
          rw [cut_ab hab hbl]
          have s3 := same_new (o := .lst (iN (((Kqv1.lacks m).drop a).take (b - a)))) hc
          refine ⟨c, (((Kqv1.lacks m).drop a).take (b - a)).map Int.ofNat, rfl, SqL.of upd_same, (by rw [List.length_map, List.length_take, List.length_drop]; omega), fun mn h1 h2 => ⟨rfl, _, rfl, ite2 (fun c4 => ?_) (fun c4 => ?_)⟩⟩
          · have c4 : mn = 0 := by have := of_decide_eq_true c4; injection this with this
            refine D.num hM hF (s12.trans s3) ?_
            rw [step_lay, if_neg (by rw [ok]; decide), if_pos]
            cases e : Kqv1.room m ⟨a, b, k⟩ with
            | false => rfl
            | true =>
              have := (room_iff m a b k hb).mp e
              obtain ⟨y, hy, ey⟩ := List.mem_map.mp h1
              have ey : (y : Int) = mn := ey
              have := this y hy
              omega
          · have c4 : mn ≠ 0 := fun z => c4 (by subst z; exact decide_eq_true rfl)
            have rm : Kqv1.room m ⟨a, b, k⟩ = true := (room_iff m a b k hb).mpr fun y hy => by
              have h3 : mn ≤ (y : Int) := h2 _ (List.mem_map.mpr ⟨y, hy, rfl⟩)
              obtain ⟨y0, _, ey⟩ := List.mem_map.mp h1
              have ey : (y0 : Int) = mn := ey
              omega
            have s4 := s12.trans s3
            have hx3 := s3 _ _ hx2
            -- the ends
            refine ⟨_, rfl, p, dx, _, rfl, s4 _ _ hp, mf_no (by decide), _, rfl, x, t.cP, da, _, _, rfl, hx3, T.clP, T.n_first, pf_first, _, rfl, x, t.cP, da, _, _, rfl, hx3, T.clP, T.n_behind, pf_behind, (by show 2 ≤ sizeLine; decide), fun u hu' => ⟨(by show 1 ≤ sizeLine; decide), fun v hv => ?_⟩⟩
            have s5 := same_new (o := .tup [V.int (a : Int), V.int (b : Int)]) hu'
            have s6 := same_new (o := .lst [V.ref u]) hv
            have s7 := (s4.trans s5).trans s6
            refine ⟨p, na, pa, sa, v, m, [(a, b)], rfl, hM.same s7, hF, ⟨_, upd_same, .cons ⟨u, rfl, s6 _ _ upd_same⟩ .nil⟩, fun z hz => (by cases List.mem_singleton.mp hz; exact ⟨hab, hb⟩), (by show 1 ≤ 1000; decide), fun H5 s8 => ⟨_, rfl, ?_⟩⟩
            have s9 := s7.trans s8
            have hfit : Kqv1.fitsEnds (Kqv1.with_ m [⟨a, b, k⟩]) = decide (∀ y ∈ endsL m [(a, b)], y ≤ m.ends) := fits_with m [⟨a, b, k⟩]
            rw [← hfit]
            have hx5 := s8 _ _ (s6 _ _ (s5 _ _ hx3))
            cases e5 : Kqv1.fitsEnds (Kqv1.with_ m [⟨a, b, k⟩]) with
            | false =>
              refine iteT (D.num hM hF s9 ?_)
              rw [step_lay, if_neg (by rw [ok]; decide), if_neg (by rw [rm]; decide), if_pos e5]
            | true =>
              have hk4 : k < m.stock.length := by rw [hF.s4]; exact hk
              have hM9 := hM.same s9
              refine iteF ⟨_, rfl, p, dx, _, rfl, s9 _ _ hp, mf_no (by decide), _, rfl, p, x, dx, _, m.long, ⟨a, b, k⟩, rfl, s9 _ _ hp, mf_long, hF.lo, ⟨da, hx5⟩, Nat.le_of_lt hab,
                _, rfl, p, t.cM, dx, _, _, rfl, s9 _ _ hp, T.clM, T.n_stock, mf_stock, _, rfl, x, t.cP, da, _, _, rfl, hx5, T.clP, T.n_kind, pf_kind, sa, _, _, _, rfl, rfl, SqL.of hM9.stock, atI_nat (iN_get (stock_get hk4)), _, _, rfl, rfl, _, rfl, ite2 (fun c6 => ?_) (fun c6 => ?_)⟩
              · have c6 : Kqv1.have_ m k < (b - a) * m.long := by have h : ((Kqv1.have_ m k : Nat) : Int) < (((b - a) * m.long : Nat) : Int) := of_decide_eq_true c6; omega
                refine D.num hM hF s9 ?_
                rw [step_lay, if_neg (by rw [ok]; decide), if_neg (by rw [rm]; decide), if_neg (by rw [e5]; decide), if_pos c6]
              · have c6 : ¬ Kqv1.have_ m k < (b - a) * m.long := fun z => c6 (decide_eq_true (by show ((Kqv1.have_ m k : Nat) : Int) < (((b - a) * m.long : Nat) : Int); omega))
                refine ⟨_, rfl, p, t.cM, dx, _, _, rfl, s9 _ _ hp, T.clM, T.n_plies, mf_plies, pa, _, rfl, s9 _ _ hd, _, _, rfl, rfl, _, rfl, ite2 (fun c7 => ?_) (fun c7 => ?_)⟩
                · rw [kvs_len, es_len hperm] at c7
                  have c7 : 40 ≤ (Kqv1.there m).length := by have := of_decide_eq_true c7; omega
                  refine D.num hM hF s9 ?_
                  rw [step_lay, if_neg (by rw [ok]; decide), if_neg (by rw [rm]; decide), if_neg (by rw [e5]; decide), if_neg c6, if_pos (show Kqv1.PLIES ≤ _ from c7)]
                · rw [kvs_len, es_len hperm] at c7
                  have c7 : ¬ 40 ≤ (Kqv1.there m).length := fun z => c7 (decide_eq_true (by omega))
                  refine ⟨_, rfl, p, dx, _, rfl, s9 _ _ hp, mf_no (by decide), _, rfl, p, na, pa, sa, x, m, ⟨a, b, k⟩, rfl, hM9, ⟨da, hx5⟩, Nat.le_of_lt hab, hk4, Nat.le_trans hF.pl (by decide), hF.lo, Nat.le_of_not_lt c6, fun H6 hM6 fr6 => ⟨(by show 1 ≤ sizeLine; decide), fun r hr => ?_⟩⟩
                  have hst : Kqv1.step (some m) (.lay a b k) = (some (Kqv1.laid m ⟨a, b, k⟩), .num (Kqv1.slot m.plies)) := by
                    rw [step_lay, if_neg (by rw [ok]; decide), if_neg (by rw [rm]; decide), if_neg (by rw [e5]; decide), if_neg c6, if_neg (show ¬ Kqv1.PLIES ≤ _ from c7)]
                  have sr := same_new (o := .lst [V.int (Kqv1.slot m.plies : Nat)]) hr
                  refine D _ na pa sa r ?_ (.of fun b' o hb' h1 h2 h3 h4 => sr _ _ (fr6 _ _ (s9 _ _ hb') h3 h4)) ?_ (fun b' o hb' h1 h2 h3 h4 => ne_of_none (fr6 _ _ (s9 _ _ hb') h3 h4) hr)
                  · rw [hst]
                    exact .yes (hM6.same sr) (hF.laid ok rm (by omega))
                  · rw [hst, upd_same]
                    rfl
theorem flat2_len (l : List (Nat × Nat)) : (l.flatMap fun p => [p.1, p.2]).length = 2 * l.length := by
  induction l with
  | nil => rfl
  | cons a l ih => rw [List.flatMap_cons, List.length_append, ih, List.length_cons]; simp; omega
theorem ok_plan (T : Txt K mg t) : FnOk P w K mg base CX0 6 t.f_plan t.d_plan ["mould", "numbers"] (sp_plan t) := by
  refine T.F_plan.ok sc_plan (fun vs H Q E h => ?_) (fun cdv A outer s H vs Q E hr h => ?_)
  · obtain ⟨_, _, _, _, _, _, rfl, _⟩ := h
    rfl
  · obtain ⟨p, l, na, pa, sa, m, rfl, hM, hF, hl, D⟩ := h
    have hu := hu_of hr
    refine ⟨_, (pss_cons (ps_set (i := 2) sc_plan.nd rfl (Or.inl rfl) (pe_meth0 (pv 0) T.clM T.m_planned (ok_planned T) (hr.mono (by decide)) T.b_planned .nil pass0)) (pss_cons (ps_set (i := 3) sc_plan.nd rfl (Or.inl rfl) (pe_lst (pa_cons (pe_callB call_len_seq rfl T.n_len PySem.boot_len (pa_cons (pv 2) pa_nil)) pa_nil))) (pss_cons (ps_for PassesOwn.never rfl (pi_list (pv 2)) (pg_tup rfl (pgs_cons (pg_name (i := 4) sc_plan.nd rfl (Or.inl rfl)) (pgs_cons (pg_name (i := 5) sc_plan.nd rfl (Or.inl rfl)) pgs_nil))) (pss_cons (ps_expr (pe_bm PySem.F.plainAttrs_list PySem.F.slot_list_append PySem.F.type_list_append mt_append (pv 3) (pa_cons (pv 4) pa_nil))) (pss_one (ps_expr (pe_bm PySem.F.plainAttrs_list PySem.F.slot_list_append PySem.F.type_list_append mt_append (pv 3) (pa_cons (pv 5) pa_nil)))))) (pss_one (ps_ret (pv 3)))))), ?_⟩
    obtain ⟨dx, hp⟩ := hM.ins
    have h144 := plan_small hF
    refine ⟨_, rfl, p, dx, _, rfl, hp, mf_no (by decide), p, na, pa, sa, m, rfl, hM, hF, fun H1 q s1 hS => ?_⟩
    obtain ⟨vs, hv1, hv2⟩ := hS
    refine ⟨_, rfl, q, _, rfl, .inl (SqL.of hv1), (by show 1 ≤ sizeLine; decide), fun a ha => ?_⟩
    have s2 := same_new (o := .lst [V.int (vs.length : Int)]) ha
    have hqa : q ≠ a := ne_of_none hv1 ha
    refine ⟨_, rfl, q, rfl, ⟨_, SqL.of (s2 _ _ hv1)⟩, for_list (K := K) (a := q) (xs := vs) (fun i σ H' => ∃ v4 v5 : Option V, σ = [some (.ref p), some (.ref l), some (.ref q), some (.ref a), v4, v5] ∧ Same H1 H' ∧ H' a = some (.lst (iN ((Kqv1.plan m).length :: ((Kqv1.plan m).take i).flatMap fun p => [p.1, p.2]))))
      ⟨none, none, rfl, s2, by rw [upd_same, paired_len hv2]; rfl⟩ (fun i σ H' _ ⟨_, _, _, s, _⟩ => SqL.of (s _ _ hv1)) ?_ ?_⟩
    · rintro i y σ H' hi ⟨v4, v5, rfl, s, hE⟩
      obtain ⟨⟨f, b⟩, hpl, u, rfl, hu'⟩ := paired_get hv2 hi
      have hsz : ∀ j, j ≤ 1 → (iN ((Kqv1.plan m).length :: ((Kqv1.plan m).take i).flatMap fun p => [p.1, p.2])).length + j < sizeLine := fun j hj => by
        rw [iN_len, List.length_cons, flat2_len, List.length_take]
        exact Nat.lt_of_le_of_lt (show _ ≤ 1000 by omega) (by decide)
      refine ⟨u, _, rfl, SqT.of (s _ _ hu'), rfl, _, _, rfl, _, _, rfl, rfl, ?_⟩
      refine ⟨_, rfl, .inl ⟨rfl, _, SqL.of hE⟩, _, rfl, a, _, _, rfl, rfl, hE, hsz 0 (by decide), ?_⟩
      refine ⟨_, rfl, .inl ⟨rfl, _, SqL.of upd_same⟩, _, rfl, a, _, _, rfl, rfl, upd_same, (by rw [List.length_append]; exact hsz 1 (by decide)), ?_⟩
      refine ⟨_, _, rfl, same_upd (same_upd s ha) ha, ?_⟩
      rw [upd_same, take_snoc hpl, List.flatMap_append]
      show some (HO.lst ((_ ++ [V.int (f : Int)]) ++ [V.int (b : Int)])) = _
      rw [← iN_snoc, ← iN_snoc]
      simp
    · rintro σ H' ⟨v4, v5, rfl, s, hE⟩
      rw [paired_len hv2, List.take_length] at hE
      exact ⟨_, rfl, D.reads hM hF (a := .some_ (Kqv1.plan m).length ((Kqv1.plan m).flatMap fun p => [p.1, p.2])) rfl (s1.trans s) hE rfl (s1.free ha)⟩
theorem count_kind (f : Nat → Nat) (j : Nat) : ∀ l : List Nat, ((l.map f).map Int.ofNat).count (j : Int) = (l.filter fun p => f p == j).length
  | [] => rfl
  | x :: l => by
    rw [List.map_cons, List.map_cons, List.count_cons, List.filter_cons, count_kind f j l]
    by_cases h : f x = j
    · rw [if_pos (by rw [h]; exact beq_self_eq_true _), if_pos (by rw [h]; exact beq_self_eq_true _), List.length_cons]
    · have h1 : ¬ ((Int.ofNat (f x) == (j : Int)) = true) := fun z => h (by have z : Int.ofNat (f x) = (j : Int) := eq_of_beq z; have z : ((f x : Nat) : Int) = (j : Int) := z; omega)
      have h2 : ¬ ((f x == j) = true) := fun z => h (eq_of_beq z)
      rw [if_neg h1, if_neg h2, Nat.add_zero]
theorem ok_kinds (T : Txt K mg t) : FnOk P w K mg base CX0 3 t.f_kinds t.d_kinds ["mould", "numbers"] (sp_kinds t) := by
  refine T.F_kinds.ok sc_kinds (fun vs H Q E h => ?_) (fun cdv A outer s H vs Q E hr h => ?_)
  · obtain ⟨_, _, _, _, _, _, _, rfl, _⟩ := h
    rfl
  · obtain ⟨i, p, l, na, pa, sa, m, rfl, hM, hF, hl, D⟩ := h
    have hu := hu_of hr
    refine ⟨_, (pss_cons (ps_set (i := 2) sc_kinds.nd rfl (Or.inl rfl) (pe_ix ix_list (pv 1) pe_int (fun _ _ => rfl))) (pss_cons (ps_if (pt_not (pt_val (pe_meth (pv 0) T.clM T.m_has_station (ok_has_station T) (hr.mono (by decide)) T.b_has_station .nil pass0 (pa_cons (pv 2) pa_nil)))) (pss_one (ps_ret (pe_lst (pa_cons (pe_gint rfl T.c_WRONG_NUMBER) pa_nil)))) pss_nil) (pss_cons (ps_set (i := 3) sc_kinds.nd rfl (Or.inr rfl) (pe_meth (pv 0) T.clM T.m_kinds_at (ok_kinds_at T) (hr.mono (by decide)) T.b_kinds_at .nil pass0 (pa_cons (pv 2) pa_nil))) (pss_one (ps_ret (pe_op op_cat (pe_lst (pa_cons (pe_gint rfl T.c_KINDS) pa_nil)) (pe_lc rfl sc_kinds.nd (pi_range1 rfl T.n_range (pa_cons (pe_gint rfl T.c_KINDS) pa_nil)) (own := [("kind", 4)]) (blkOk_by (by with_unfolding_all rfl)) (fun _ _ _ _ _ => pg_name (i := 4) sc_kinds.nd rfl (Or.inl rfl)) (fun _ _ _ _ _ => pts_nil) (fun _ _ _ _ _ => (pe_countK (K := K) rfl (pv 3) (pa_cons (pv 4) pa_nil)))))))))), ?_⟩
    obtain ⟨dx, hp⟩ := hM.ins
    have hstep : Kqv1.step (some m) (.kinds i) = (some m, if Kqv1.stations m ≤ i then .num (-22) else .some_ 4 ((List.range 4).map fun k => ((Kqv1.stack m i).filter fun p => Kqv1.kindOf m p == k).length)) := rfl
    refine ⟨_, rfl, l, _, _, _, rfl, rfl, SqL.of hl, at_of (j := 0) (v := .int (i : Int)) rfl rfl, ?_⟩
    refine ⟨_, rfl, p, dx, _, rfl, hp, mf_no (by decide), _, rfl, p, na, pa, sa, m, i, rfl, hM, _, rfl, ite2 (fun c1 => ?_) (fun c1 => ?_)⟩
    · have c1 : ¬ i < Kqv1.stations m := fun z => by rw [decide_eq_true z] at c1; cases c1
      exact D.num hM hF (Same.refl _) (by rw [hstep, if_pos (by omega)])
    · have hi : i < Kqv1.stations m := by
        by_cases z : i < Kqv1.stations m
        · exact z
        · rw [decide_eq_false z] at c1; exact absurd rfl c1
      refine ⟨_, rfl, p, dx, _, rfl, hp, mf_no (by decide), _, rfl, p, na, pa, sa, m, i, rfl, hM, hF.l64, fun H1 q s1 hq => ?_⟩
      refine ⟨(by show 1 ≤ sizeLine; decide), fun q2 hq2 => ?_⟩
      have s2 := same_new (o := .lst [V.int 4]) hq2
      refine ⟨4, rfl, by decide, by decide, fun D0 hD => ?_⟩
      have hD1 : H1 D0 = none := s2.free hD
      have hq2D : q2 ≠ D0 := ne_of_none upd_same hD
      refine lc_range (lo := 0) (n := 4) (fun j H' => Same H1 H' ∧ H' q2 = some (.lst [V.int 4]) ∧ H' D0 = some (.lst (iN ((List.range j).map fun k => ((Kqv1.stack m i).filter fun p => Kqv1.kindOf m p == k).length))))
        ⟨s2.trans (same_new hD), at_upd upd_same hq2D, upd_same⟩ ?_ ?_
      · rintro j H' hj ⟨s, h2, hD'⟩
        have hq' := s _ _ hq
        refine ⟨rfl, _, rfl, .inl ⟨rfl, _, SqL.of hq'⟩, _, rfl, q, ((Kqv1.stack m i).map (Kqv1.kindOf m)).map Int.ofNat, (j : Int), rfl, (by rw [Int.zero_add]), SqL.of hq', _, hD', ?_, same_upd s hD1, at_upd h2 hq2D, ?_⟩
        · rw [iN_len, List.length_map, List.length_range]
          exact small64' (by omega)
        · rw [upd_same, count_kind, List.range_succ, List.map_append, List.map_cons, List.map_nil, iN_snoc]
      · rintro H' ⟨s, h2, hD'⟩
        refine ⟨q2, D0, _, _, rfl, rfl, h2, hD', (by show 5 ≤ sizeLine; decide), fun r hr => ?_⟩
        exact D.reads hM hF (a := .some_ 4 ((List.range 4).map fun k => ((Kqv1.stack m i).filter fun p => Kqv1.kindOf m p == k).length)) (by rw [hstep, if_neg (by omega)]) ((s1.trans s).trans (same_new hr)) upd_same rfl ((s1.trans s).free hr)
theorem flat_iN (l : List Nat) : (iN l).all flatV = true := by
  rw [List.all_eq_true]
  intro x hx
  obtain ⟨y, _, rfl⟩ := List.mem_map.mp hx
  rfl
theorem ok_worst (T : Txt K mg t) : FnOk P w K mg base CX0 3 t.f_worst t.d_worst ["mould", "numbers"] (sp_worst t) := by
  refine T.F_worst.ok sc_worst (fun vs H Q E h => ?_) (fun cdv A outer s H vs Q E hr h => ?_)
  · obtain ⟨_, _, _, _, _, _, rfl, _⟩ := h
    rfl
  · obtain ⟨p, l, na, pa, sa, m, rfl, hM, hF, hl, D⟩ := h
    have hu := hu_of hr
    refine ⟨_, (pss_cons (ps_set (i := 2) sc_worst.nd rfl (Or.inl rfl) (pe_meth (pv 0) T.clM T.m_ends_with (ok_ends_with T) (hr.mono (by decide)) T.b_ends_with .nil pass0 (pa_cons (pe_lst pa_nil) pa_nil))) (pss_cons (ps_set (i := 3) sc_worst.nd rfl (Or.inl rfl) (pe_callB (cr_max rfl) rfl T.n_max PyProof.Rows.boot_max (pa_cons (pv 2) pa_nil))) (pss_one (ps_ret (pe_lst (pa_cons (pv 3) (pa_cons (pe_bm PySem.F.plainAttrs_list PySem.F.slot_list_index PySem.F.type_list_index mt_index (pv 2) (pa_cons (pv 3) pa_nil)) pa_nil))))))), ?_⟩
    obtain ⟨dx, hp⟩ := hM.ins
    refine ⟨_, rfl, p, dx, _, rfl, hp, mf_no (by decide), Nat.zero_le _, fun q hq => ⟨p, na, pa, sa, q, m, [], rfl, hM.same (same_new hq), hF, ⟨_, upd_same, .nil⟩, fun z hz => (by cases hz), Nat.zero_le _, fun H1 r s1 hr => ?_⟩⟩
    refine ⟨_, rfl, r, _, rfl, SqL.of hr, endsL_ne hF [], fun mx h1 h2 => ?_⟩
    have em := max_of h1 h2
    obtain ⟨y, hy, ey⟩ := List.mem_map.mp h1
    have ey : (y : Int) = mx := ey
    have hyM : y = (endsL m []).foldl max 0 := by omega
    subst em
    rw [hyM] at hy
    obtain ⟨j, hj1, hj2, hj3⟩ := findIdx_max hy
    refine ⟨_, rfl, _, rfl, .inl ⟨rfl, _, SqL.of hr⟩, _, rfl, r, _, _, j, _, rfl, rfl, SqL.of hr, rfl, flat_iN _, iN_get hj2, (by show ((((endsL m []).foldl max 0 : Nat) : Int) == (((endsL m []).foldl max 0 : Nat) : Int)) = true; exact beq_self_eq_true _), fun i z hi hz => ?_, (by show 2 ≤ sizeLine; decide), fun r2 hr2 => ?_⟩
    · obtain ⟨x, hx, rfl⟩ := iN_inv hz
      have hne := hj3 i hi x hx
      show ((x : Int) == (((endsL m []).foldl max 0 : Nat) : Int)) = false
      exact beq_eq_false_iff_ne.mpr (by omega)
    · refine D.reads hM hF (a := .some_ (((endsL m []).foldl max 0 : Nat) : Int) [((endsL m []).findIdx? fun x => x == (endsL m []).foldl max 0).getD 0]) ?_ (((same_new hq).trans s1).trans (same_new hr2)) upd_same ?_ (((same_new hq).trans s1).free hr2)
      · rw [← endsL_nil]
        rfl
      · rw [hj1]
        rfl
end
end Bm
end
section
set_option Elab.async false
set_option linter.all false
set_option maxRecDepth 100000
set_option maxHeartbeats 4000000
namespace Bm
open PySem PySem.Spec PyProof.Rows L2
open Kqv1 (Ply Mould)
section
variable {P : Program} {w : World} {K : PySem.W.Frag} {mg : Str → Option Value} {base : Heap} {t : Adr}
theorem step_follow (m : Mould) (k : Nat) : Kqv1.step (some m) (.follow k) = if 4 ≤ k then (some m, .num (-22)) else if Kqv1.fitsEnds (Kqv1.with_ m (Kqv1.plies m k)) = false then (some m, .num (-13)) else if Kqv1.have_ m k < Kqv1.fabric m then (some m, .num (-12)) else if Kqv1.PLIES < (Kqv1.there m).length + (Kqv1.plan m).length then (some m, .num (-28)) else (some ((Kqv1.plies m k).foldl Kqv1.laid m), .num (Kqv1.plan m).length) := rfl
theorem laid_fold {m : Mould} {k : Nat} (h4 : k < m.stock.length) : ∀ (qs ps : List Ply) (m' : Mould), (∀ p ∈ qs, p.kind = k) → LaidTo m ps k m' → LaidTo m (ps ++ qs) k (qs.foldl Kqv1.laid m')
  | [], ps, m', _, L => by rw [List.append_nil]; exact L
  | q :: qs, ps, m', hk, L => by
    have := laid_fold h4 qs (ps ++ [q]) (Kqv1.laid m' q) (fun p hp => hk p (List.mem_cons_of_mem _ hp)) (L.snoc (hk q (List.mem_cons_self ..)) h4)
    rw [List.append_assoc] at this
    exact this
theorem sum_take_le {l : List Nat} {i x : Nat} (h : l[i]? = some x) : Kqv1.sum (l.take i) + x ≤ Kqv1.sum l := by
  have e : l = l.take (i + 1) ++ l.drop (i + 1) := (List.take_append_drop (i + 1) l).symm
  have e2 : Kqv1.sum l = Kqv1.sum (l.take (i + 1)) + Kqv1.sum (l.drop (i + 1)) := by rw [← sum_append, ← e]
  rw [e2, take_snoc h, sum_append]
  show _ + x ≤ _ + (x + 0) + _
  omega
theorem plies_get {m : Mould} {k i f b : Nat} (h : (Kqv1.plan m)[i]? = some (f, b)) : (Kqv1.plies m k)[i]? = some ⟨f, b, k⟩ := by
  unfold Kqv1.plies
  rw [List.getElem?_map, h]
  rfl
theorem plies_kind (m : Mould) (k : Nat) : ∀ p ∈ Kqv1.plies m k, p.kind = k := fun p hp => by
  unfold Kqv1.plies at hp
  obtain ⟨q, _, rfl⟩ := List.mem_map.mp hp
  rfl
theorem ok_follow (T : Txt K mg t) : FnOk P w K mg base CX0 6 t.f_follow t.d_follow ["mould", "numbers"] (sp_follow t) := by
  refine T.F_follow.ok sc_follow (fun vs H Q E h => ?_) (fun cdv A outer s H vs Q E hr h => ?_)
  · obtain ⟨_, _, _, _, _, _, _, rfl, _⟩ := h
    rfl
  · obtain ⟨k, p, l, na, pa, sa, m, rfl, hM, hF, hl, D⟩ := h
    have hu := hu_of hr
    refine ⟨_, (pss_cons (ps_set (i := 2) sc_follow.nd rfl (Or.inl rfl) (pe_ix ix_list (pv 1) pe_int (fun _ _ => rfl))) (pss_cons (ps_if (pt_cmpR op_ge (pv 2) (pe_gint rfl T.c_KINDS) (nomark _)) (pss_one (ps_ret (pe_lst (pa_cons (pe_gint rfl T.c_WRONG_NUMBER) pa_nil)))) pss_nil) (pss_cons (ps_set (i := 3) sc_follow.nd rfl (Or.inl rfl) (pe_meth0 (pv 0) T.clM T.m_planned (ok_planned T) (hr.mono (by decide)) T.b_planned .nil pass0)) (pss_cons (ps_if (pt_not (pt_val (pe_meth (pv 0) T.clM T.m_has_ends_for (ok_has_ends_for T) (hr.mono (by decide)) T.b_has_ends_for .nil pass0 (pa_cons (pv 3) pa_nil)))) (pss_one (ps_ret (pe_lst (pa_cons (pe_gint rfl T.c_TOO_MANY_ENDS) pa_nil)))) pss_nil) (pss_cons (ps_if (pt_cmpR op_gt (pe_meth0 (pv 0) T.clM T.m_planned_fabric (ok_planned_fabric T) (hr.mono (by decide)) T.b_planned_fabric .nil pass0) (pe_ix ix_list (pe_fld (pv 0) rfl) (pv 2) (fun _ _ => rfl)) (nomark _)) (pss_one (ps_ret (pe_lst (pa_cons (pe_gint rfl T.c_TOO_LITTLE_FABRIC) pa_nil)))) pss_nil) (pss_cons (ps_if (pt_cmpR op_gt (pe_op op_add (pe_callB call_lenD rfl T.n_len PySem.boot_len (pa_cons (pe_fld (pv 0) rfl) pa_nil)) (pe_callB call_len_seq rfl T.n_len PySem.boot_len (pa_cons (pv 3) pa_nil))) (pe_gint rfl T.c_MOST_PLIES) (nomark _)) (pss_one (ps_ret (pe_lst (pa_cons (pe_gint rfl T.c_TOO_MANY_PLIES) pa_nil)))) pss_nil) (pss_cons (ps_for PassesOwn.never rfl (pi_list (pv 3)) (pg_tup rfl (pgs_cons (pg_name (i := 4) sc_follow.nd rfl (Or.inl rfl)) (pgs_cons (pg_name (i := 5) sc_follow.nd rfl (Or.inl rfl)) pgs_nil))) (pss_one (ps_expr (pe_meth (pv 0) T.clM T.m_lay_ply (ok_lay_ply T) (hr.mono (by decide)) T.b_lay_ply .nil pass0 (pa_cons (pe_make T.mkPly (ok_init_Ply T) (hr.mono (by decide)) rfl T.g_Ply T.b_init_Ply .nil pass0 (pa_cons (pv 4) (pa_cons (pv 5) (pa_cons (pv 2) pa_nil)))) pa_nil))))) (pss_one (ps_ret (pe_lst (pa_cons (pe_callB call_len_seq rfl T.n_len PySem.boot_len (pa_cons (pv 3) pa_nil)) pa_nil))))))))))), ?_⟩
    obtain ⟨dx, hp⟩ := hM.ins
    obtain ⟨es, hd, hpl, hperm⟩ := hM.plies
    refine ⟨_, rfl, l, _, _, _, rfl, rfl, SqL.of hl, at_of (j := 0) (v := .int (k : Int)) rfl rfl, ?_⟩
    refine ⟨_, rfl, _, _, rfl, rfl, _, rfl, ite2 (fun c1 => ?_) (fun c1 => ?_)⟩
    · have c1 : 4 ≤ k := by have := of_decide_eq_true c1; omega
      exact D.num hM hF (Same.refl _) (by rw [step_follow, if_pos c1])
    · have hk : k < 4 := Nat.lt_of_not_le fun z => c1 (decide_eq_true (by omega))
      have hk4 : k < m.stock.length := by rw [hF.s4]; exact hk
      refine ⟨_, rfl, p, dx, _, rfl, hp, mf_no (by decide), p, na, pa, sa, m, rfl, hM, hF, fun H1 q s1 hS => ?_⟩
      have h144 := plan_small hF
      have hfit : Kqv1.fitsEnds (Kqv1.with_ m (Kqv1.plies m k)) = decide (∀ y ∈ endsL m (Kqv1.plan m), y ≤ m.ends) := by rw [fits_with, pairs_plies]
      refine ⟨_, rfl, p, dx, _, rfl, s1 _ _ hp, mf_no (by decide), _, rfl, p, na, pa, sa, q, m, Kqv1.plan m, rfl, hM.same s1, hF, hS, plan_ok m, Nat.le_trans h144 (by decide), fun H2 s2 => ⟨_, rfl, ?_⟩⟩
      rw [← hfit]
      have s12 := s1.trans s2
      cases e5 : Kqv1.fitsEnds (Kqv1.with_ m (Kqv1.plies m k)) with
      | false => exact iteT (D.num hM hF s12 (by rw [step_follow, if_neg (by omega), if_pos e5]))
      | true =>
        refine iteF ⟨_, rfl, p, dx, _, rfl, s12 _ _ hp, mf_no (by decide), p, na, pa, sa, m, rfl, hM.same s12, hF, fun H3 s3 => ?_⟩
        have sT := s12.trans s3
        have hMT := hM.same sT
        refine ⟨_, rfl, p, t.cM, dx, _, _, rfl, sT _ _ hp, T.clM, T.n_stock, mf_stock, _, rfl, sa, _, _, _, rfl, rfl, SqL.of hMT.stock, atI_nat (iN_get (stock_get hk4)), _, _, rfl, rfl, _, rfl, ite2 (fun c2 => ?_) (fun c2 => ?_)⟩
        · have c2 : Kqv1.have_ m k < Kqv1.fabric m := by have := of_decide_eq_true c2; omega
          exact D.num hM hF sT (by rw [step_follow, if_neg (by omega), if_neg (by rw [e5]; decide), if_pos c2])
        · have c2 : ¬ Kqv1.have_ m k < Kqv1.fabric m := fun z => c2 (decide_eq_true (by omega))
          obtain ⟨vs, hv1, hv2⟩ := hS.same (s2.trans s3)
          have hlv := paired_len hv2
          refine ⟨_, rfl, p, t.cM, dx, _, _, rfl, sT _ _ hp, T.clM, T.n_plies, mf_plies, pa, _, rfl, sT _ _ hd, _, rfl, q, _, rfl, .inl (SqL.of hv1), _, _, rfl, rfl, _, _, rfl, rfl, _, rfl, ite2 (fun c3 => ?_) (fun c3 => ?_)⟩
          · rw [kvs_len, es_len hperm, hlv] at c3
            have c3 : 40 < (Kqv1.there m).length + (Kqv1.plan m).length := by have := of_decide_eq_true c3; omega
            exact D.num hM hF sT (by rw [step_follow, if_neg (by omega), if_neg (by rw [e5]; decide), if_neg c2, if_pos (show Kqv1.PLIES < _ from c3)])
          · rw [kvs_len, es_len hperm, hlv] at c3
            have c3 : ¬ 40 < (Kqv1.there m).length + (Kqv1.plan m).length := fun z => c3 (decide_eq_true (by omega))
            have hst : Kqv1.step (some m) (.follow k) = (some ((Kqv1.plies m k).foldl Kqv1.laid m), .num (Kqv1.plan m).length) := by
              rw [step_follow, if_neg (by omega), if_neg (by rw [e5]; decide), if_neg c2, if_neg (show ¬ Kqv1.PLIES < _ from c3)]
            have hqpa : q ≠ pa := ne_of hv1 (sT _ _ hd) (by intro z; cases z)
            have hqsa : q ≠ sa := fun z => by
              subst z
              have e := hv1.symm.trans hMT.stock
              have e : vs = iN m.stock := by injection e with e; injection e
              have h0 : (iN m.stock)[0]? = some (.int (Kqv1.have_ m 0 : Nat)) := iN_get (stock_get (by rw [hF.s4]; decide))
              rw [← e] at h0
              obtain ⟨_, _, u, hu1, _⟩ := paired_get hv2 h0
              cases hu1
            have hlay : ∀ i, LaidTo m ((Kqv1.plies m k).take i) k (((Kqv1.plies m k).take i).foldl Kqv1.laid m) := fun i =>
              laid_fold hk4 ((Kqv1.plies m k).take i) [] m (fun x hx => plies_kind m k x (List.mem_of_mem_take hx)) (.nil m k)
            refine ⟨_, rfl, q, rfl, ⟨_, SqL.of hv1⟩, for_list (K := K) (a := q) (xs := vs) (fun i σ H' => ∃ v4 v5 : Option V, σ = [some (.ref p), some (.ref l), some (.int k), some (.ref q), v4, v5] ∧ MAt t H' p na pa sa (((Kqv1.plies m k).take i).foldl Kqv1.laid m) ∧ ∀ b o, H3 b = some o → b ≠ pa → b ≠ sa → H' b = some o)
              ⟨none, none, rfl, hMT, fun _ _ h _ _ => h⟩ (fun i σ H' _ ⟨_, _, _, _, fr⟩ => SqL.of (fr _ _ hv1 hqpa hqsa)) ?_ ?_⟩
            · rintro i y σ H' hi ⟨v4, v5, rfl, hMi, fr⟩
              obtain ⟨⟨f, b⟩, hpi, u, rfl, hu'⟩ := paired_get hv2 hi
              have hu2 := fr _ _ hu' (ne_of hu' (sT _ _ hd) (by intro z; cases z)) (ne_of hu' hMT.stock (by intro z; cases z))
              obtain ⟨dxi, hpi2⟩ := hMi.ins
              obtain ⟨hfb, hbs⟩ := plan_ok m (f, b) (List.mem_of_getElem? hpi)
              have hfb : f < b := hfb
              have hgi := plies_get (k := k) hpi
              have hil : i < (Kqv1.plan m).length := (List.getElem?_eq_some_iff.mp hpi).1
              have L := hlay i
              have hlong : Kqv1.long (((Kqv1.plies m k).take i).foldl Kqv1.laid m) = Kqv1.long m := long_eq L.lo
              have hsum : Kqv1.sum (((Kqv1.plies m k).take i).map (Kqv1.long m)) + Kqv1.long m ⟨f, b, k⟩ ≤ Kqv1.fabric m := by
                have h1 : ((Kqv1.plies m k).map (Kqv1.long m))[i]? = some (Kqv1.long m ⟨f, b, k⟩) := by rw [List.getElem?_map, hgi]; rfl
                have h2 := sum_take_le h1
                rw [← List.map_take, plies_sum] at h2
                exact h2
              have hth : (Kqv1.there (((Kqv1.plies m k).take i).foldl Kqv1.laid m)).length ≤ 1000 := by
                rw [L.th.length_eq, List.length_append, List.length_take]
                have := hF.pl
                omega
              refine ⟨u, _, rfl, SqT.of hu2, rfl, _, _, rfl, _, _, rfl, rfl, ?_⟩
              refine ⟨_, rfl, p, dxi, _, rfl, hpi2, mf_no (by decide), _, rfl, _, rfl, _, rfl, fun x d1 n0 n1 n2 => ⟨x, d1, f, b, k, rfl, upd_same, fun H4 hA fr4 => ⟨rfl, ?_⟩⟩⟩
              have s4 : Same H' H4 := Same.made n0 n1 fr4
              refine ⟨p, na, pa, sa, x, _, ⟨f, b, k⟩, rfl, hMi.same s4, hA, Nat.le_of_lt hfb, (by rw [L.sl]; exact hk4), hth, (by rw [L.lo]; exact hF.lo), (by rw [hlong, L.hv]; omega), fun H5 hM5 fr5 => ?_⟩
              refine ⟨_, _, rfl, ?_, fun b' o hb' h1 h2 => fr5 _ _ (s4 _ _ (fr _ _ hb' h1 h2)) h1 h2⟩
              rw [take_snoc hgi, List.foldl_append]
              exact hM5
            · rintro σ H' ⟨v4, v5, rfl, hMi, fr⟩
              have hplen : (Kqv1.plies m k).length = vs.length := by unfold Kqv1.plies; rw [List.length_map, hlv]
              rw [← hplen, List.take_length] at hMi
              have L := hlay (Kqv1.plies m k).length
              rw [List.take_length] at L
              refine ⟨_, rfl, q, _, rfl, .inl (SqL.of (fr _ _ hv1 hqpa hqsa)), (by show 1 ≤ sizeLine; decide), fun r hr => ?_⟩
              have sr := same_new (o := .lst [V.int (vs.length : Int)]) hr
              refine D _ na pa sa r ?_ (.of fun b' o hb' h1 h2 h3 h4 => sr _ _ (fr _ _ (sT _ _ hb') h3 h4)) ?_ (fun b' o hb' h1 h2 h3 h4 => ne_of_none (fr _ _ (sT _ _ hb') h3 h4) hr)
              · rw [hst]
                exact .yes (hMi.same sr) (hF.followed L (by omega))
              · rw [hst, upd_same, hlv]
                rfl
end
end Bm
end
section
set_option Elab.async false
set_option linter.all false
set_option maxRecDepth 100000
set_option maxHeartbeats 4000000
namespace Bm
open PySem PySem.Spec PyProof.Rows L2
open Kqv1 (Ply Mould)
section
variable {P : Program} {w : World} {K : PySem.W.Frag} {mg : Str → Option Value} {base : Heap} {t : Adr}
def sp_answer_call (t : Adr) : Sp := fun vs H Q _ => ∃ (p l na pa sa : Addr) (s : Option Mould) (k : Nat) (ns : List Nat) (c : Kqv1.Call), vs = [.ref p, .int k, .ref l] ∧ MSt t H p na pa sa s ∧ H l = some (.lst (iN ns)) ∧ CallIs k ns c ∧ Done t H p na pa sa Q s c
theorem step_none {k : Nat} {ns : List Nat} {c : Kqv1.Call} (h : CallIs k ns c) (hk : k ≠ 0) : Kqv1.step none c = (none, .num (-11)) := by
  cases h with
  | start => exact absurd rfl hk
  | _ => rfl
theorem MSt.get {t : Adr} {H : Hp} {p na pa sa : Addr} {s : Option Mould} (h : MSt t H p na pa sa s) : (s = none ∧ MAt t H p na pa sa m0) ∨ ∃ m, MAt t H p na pa sa m ∧ Fit m ∧ s = some m := by
  cases h with
  | no h => exact .inl ⟨rfl, h⟩
  | yes h hF => exact .inr ⟨_, h, hF, rfl⟩
theorem ok_answer_call (T : Txt K mg t) : FnOk P w K mg base CX0 7 t.f_answer_call t.d_answer_call ["mould", "call", "numbers"] (sp_answer_call t) := by
  refine T.F_answer_call.ok sc_answer_call (fun vs H Q E h => ?_) (fun cdv A outer s H vs Q E hr h => ?_)
  · obtain ⟨_, _, _, _, _, _, _, _, _, rfl, _⟩ := h
    rfl
  · obtain ⟨p, l, na, pa, sa, s0, k, ns, c, rfl, hs, hl, hC, D⟩ := h
    have hu := hu_of hr
    refine ⟨_, (pss_cons (ps_if (PW.pt (pw_and (pt_cmpR op_ne (pv 1) (pe_gint rfl T.c_START) (nomark _)) (pw_and1 (pt_not (pt_val (pe_meth0 (pv 0) T.clM T.m_is_begun (ok_is_begun T) (hr.mono (by decide)) T.b_is_begun .nil pass0)))))) (pss_one (ps_ret (pe_lst (pa_cons (pe_gint rfl T.c_NOT_STARTED) pa_nil)))) pss_nil) (pss_cons (ps_set (i := 3) sc_answer_call.nd rfl (Or.inl rfl) (pe_idict rfl T.g_CALLS T.calls (pv 1) (fun _ _ => rfl))) (pss_one (ps_ret (pe_callV (pv 3) (pa_cons (pv 0) (pa_cons (pv 2) pa_nil))))))), ?_⟩
    by_cases hq : k ≠ 0 ∧ s0 = none
    · obtain ⟨hk, rfl⟩ := hq
      rcases hs.get with ⟨_, hM⟩ | ⟨m, _, _, e⟩
      · obtain ⟨dx, hp⟩ := hM.ins
        refine ⟨_, rfl, rfl, _, rfl, ite2 (fun c1 => ?_) (fun c1 => ?_)⟩
        · refine ⟨_, rfl, p, dx, _, rfl, hp, mf_no (by decide), p, na, pa, sa, m0, rfl, hM, _, rfl, ?_⟩
          exact D.ref hs (Same.refl _) (step_none hC hk)
        · exfalso
          apply c1
          rw [decide_eq_false (by intro z; injection z with z; omega)]
          rfl
      · cases e
    · have hb : k ≠ 0 → ∃ m, MAt t H p na pa sa m ∧ Fit m ∧ s0 = some m := fun hk => by
        rcases hs.get with ⟨e, _⟩ | h
        · exact absurd ⟨hk, e⟩ hq
        · exact h
      obtain ⟨f, lv, fd, ps, sp, hfind, hok, hlv, hkp, hbd, hsp⟩ : ∃ (f : Addr) (lv : Nat) (fd : FuncData) (ps : List Str) (sp : Sp), ((callsOf t).find? fun q => decide (q.1 = (k : Int))) = some ((k : Int), f) ∧ FnOk P w K mg base CX0 lv f fd ps sp ∧ lv ≤ 6 ∧ PySem.W.keepIn K (.ref f) = true ∧ Binds K fd ps [] ∧ sp [.ref p, .ref l] H Q E0 := by
        cases hC with
        | start L E2 c2 need h60 hlen =>
          exact ⟨t.f_start, 2, t.d_start, _, sp_start t, rfl, ok_start T, by decide, T.F_start.kp, T.b_start, p, l, na, pa, sa, s0, L, E2, c2, need, rfl, hs, hl, h60, D⟩
        | set i n =>
          obtain ⟨m, hM, hF, rfl⟩ := hb (by decide)
          exact ⟨t.f_set_need, 3, t.d_set_need, _, sp_set_need t, rfl, ok_set_need T, by decide, T.F_set_need.kp, T.b_set_need, i, n, p, l, na, pa, sa, m, rfl, hM, hF, hl, D⟩
        | roll i n =>
          obtain ⟨m, hM, hF, rfl⟩ := hb (by decide)
          exact ⟨t.f_roll, 1, t.d_roll, _, sp_roll t, rfl, ok_roll T, by decide, T.F_roll.kp, T.b_roll, i, n, p, l, na, pa, sa, m, rfl, hM, hF, hl, D⟩
        | lay i n j =>
          obtain ⟨m, hM, hF, rfl⟩ := hb (by decide)
          exact ⟨t.f_lay, 5, t.d_lay, _, sp_lay t, rfl, ok_lay T, by decide, T.F_lay.kp, T.b_lay, i, n, j, p, l, na, pa, sa, m, rfl, hM, hF, hl, D⟩
        | lift i =>
          obtain ⟨m, hM, hF, rfl⟩ := hb (by decide)
          exact ⟨t.f_lift, 3, t.d_lift, _, sp_lift t, rfl, ok_lift T, by decide, T.F_lift.kp, T.b_lift, i, p, l, na, pa, sa, m, rfl, hM, hF, hl, D⟩
        | missing i =>
          obtain ⟨m, hM, hF, rfl⟩ := hb (by decide)
          exact ⟨t.f_missing, 4, t.d_missing, _, sp_missing t, rfl, ok_missing T, by decide, T.F_missing.kp, T.b_missing, i, p, l, na, pa, sa, m, rfl, hM, hF, hl, D⟩
        | lacks =>
          obtain ⟨m, hM, hF, rfl⟩ := hb (by decide)
          exact ⟨t.f_lacks, 5, t.d_lacks, _, sp_lacks t, rfl, ok_lacks T, by decide, T.F_lacks.kp, T.b_lacks, p, l, na, pa, sa, m, rfl, hM, hF, hl, D⟩
        | fewest =>
          obtain ⟨m, hM, hF, rfl⟩ := hb (by decide)
          exact ⟨t.f_fewest, 5, t.d_fewest, _, sp_fewest t, rfl, ok_fewest T, by decide, T.F_fewest.kp, T.b_fewest, p, l, na, pa, sa, m, rfl, hM, hF, hl, D⟩
        | plan =>
          obtain ⟨m, hM, hF, rfl⟩ := hb (by decide)
          exact ⟨t.f_plan, 6, t.d_plan, _, sp_plan t, rfl, ok_plan T, by decide, T.F_plan.kp, T.b_plan, p, l, na, pa, sa, m, rfl, hM, hF, hl, D⟩
        | goes =>
          obtain ⟨m, hM, hF, rfl⟩ := hb (by decide)
          exact ⟨t.f_goes, 6, t.d_goes, _, sp_goes t, rfl, ok_goes T, by decide, T.F_goes.kp, T.b_goes, p, l, na, pa, sa, m, rfl, hM, hF, hl, D⟩
        | fabric =>
          obtain ⟨m, hM, hF, rfl⟩ := hb (by decide)
          exact ⟨t.f_fabric, 6, t.d_fabric, _, sp_fabric t, rfl, ok_fabric T, by decide, T.F_fabric.kp, T.b_fabric, p, l, na, pa, sa, m, rfl, hM, hF, hl, D⟩
        | follow i =>
          obtain ⟨m, hM, hF, rfl⟩ := hb (by decide)
          exact ⟨t.f_follow, 6, t.d_follow, _, sp_follow t, rfl, ok_follow T, by decide, T.F_follow.kp, T.b_follow, i, p, l, na, pa, sa, m, rfl, hM, hF, hl, D⟩
        | ends i =>
          obtain ⟨m, hM, hF, rfl⟩ := hb (by decide)
          exact ⟨t.f_ends, 3, t.d_ends, _, sp_ends t, rfl, ok_ends T, by decide, T.F_ends.kp, T.b_ends, i, p, l, na, pa, sa, m, rfl, hM, hF, hl, D⟩
        | worst =>
          obtain ⟨m, hM, hF, rfl⟩ := hb (by decide)
          exact ⟨t.f_worst, 3, t.d_worst, _, sp_worst t, rfl, ok_worst T, by decide, T.F_worst.kp, T.b_worst, p, l, na, pa, sa, m, rfl, hM, hF, hl, D⟩
        | stack i =>
          obtain ⟨m, hM, hF, rfl⟩ := hb (by decide)
          exact ⟨t.f_stack, 3, t.d_stack, _, sp_stack t, rfl, ok_stack T, by decide, T.F_stack.kp, T.b_stack, i, p, l, na, pa, sa, m, rfl, hM, hF, hl, D⟩
        | kinds i =>
          obtain ⟨m, hM, hF, rfl⟩ := hb (by decide)
          exact ⟨t.f_kinds, 3, t.d_kinds, _, sp_kinds t, rfl, ok_kinds T, by decide, T.F_kinds.kp, T.b_kinds, i, p, l, na, pa, sa, m, rfl, hM, hF, hl, D⟩
        | alike i =>
          obtain ⟨m, hM, hF, rfl⟩ := hb (by decide)
          exact ⟨t.f_alike, 4, t.d_alike, _, sp_alike t, rfl, ok_alike T, by decide, T.F_alike.kp, T.b_alike, i, p, l, na, pa, sa, m, rfl, hM, hF, hl, D⟩
        | swap i n =>
          obtain ⟨m, hM, hF, rfl⟩ := hb (by decide)
          exact ⟨t.f_swap, 2, t.d_swap, _, sp_swap t, rfl, ok_swap T, by decide, T.F_swap.kp, T.b_swap, i, n, p, l, na, pa, sa, m, rfl, hM, hF, hl, D⟩
        | stock i =>
          obtain ⟨m, hM, hF, rfl⟩ := hb (by decide)
          exact ⟨t.f_stock, 1, t.d_stock, _, sp_stock t, rfl, ok_stock T, by decide, T.F_stock.kp, T.b_stock, i, p, l, na, pa, sa, m, rfl, hM, hF, hl, D⟩
        | metres =>
          obtain ⟨m, hM, hF, rfl⟩ := hb (by decide)
          exact ⟨t.f_metres, 3, t.d_metres, _, sp_metres t, rfl, ok_metres T, by decide, T.F_metres.kp, T.b_metres, p, l, na, pa, sa, m, rfl, hM, hF, hl, D⟩
        | state =>
          obtain ⟨m, hM, hF, rfl⟩ := hb (by decide)
          exact ⟨t.f_state, 2, t.d_state, _, sp_state t, rfl, ok_state T, by decide, T.F_state.kp, T.b_state, p, l, na, pa, sa, m, rfl, hM, hF, hl, D⟩
      refine ⟨_, rfl, rfl, _, rfl, ite2 (fun c1 => ?_) (fun c1 => ?_)⟩
      · have hk : k ≠ 0 := fun z => by subst z; cases c1
        obtain ⟨m, hM, hF, rfl⟩ := hb hk
        obtain ⟨dx, hp⟩ := hM.ins
        have hpos : 0 < Kqv1.stations m := Nat.pos_of_ne_zero fun z => hF.st (List.length_eq_zero_iff.mp z)
        refine ⟨_, rfl, p, dx, _, rfl, hp, mf_no (by decide), p, na, pa, sa, m, rfl, hM, _, rfl, ?_⟩
        rw [decide_eq_true hpos]
        exact ⟨_, rfl, (k : Int), _, rfl, hfind, _, rfl, f, lv, fd, ps, sp, rfl, hok, hr.mono hlv, hkp, hbd, _, rfl, _, rfl, hsp⟩
      · exact ⟨_, rfl, (k : Int), _, rfl, hfind, _, rfl, f, lv, fd, ps, sp, rfl, hok, hr.mono hlv, hkp, hbd, _, rfl, _, rfl, hsp⟩
def EndAt (ns : List Int) (pl k e : Nat) : Prop := ∃ n, plainL[k]? = some n ∧ ((k ≠ 0 ∧ e = pl + 1 + n) ∨ (k = 0 ∧ ∃ c : Nat, ns[pl + 1 + n]? = some (c : Int) ∧ e = pl + 1 + n + (1 + c)))
def sp_end_of_call (K : PySem.W.Frag) : Sp := fun vs H Q _ => ∃ (a : Addr) (ns : List Int) (pl k e : Nat), vs = [.ref a, .int pl] ∧ SqL K H a (ns.map V.int) ∧ ns[pl]? = some (k : Int) ∧ EndAt ns pl k e ∧ Q (.int e) H
theorem map_get {ns : List Int} {j : Nat} {z : Int} (h : ns[j]? = some z) : (ns.map V.int)[j]? = some (.int z) := by rw [List.getElem?_map, h]; rfl
theorem plain_get {k n : Nat} (h : plainL[k]? = some n) : (([2, 2, 2, 3, 1, 1, 0, 0, 0, 0, 0, 1, 1, 0, 1, 1, 1, 2, 1, 0, 0] : List Int).map V.int)[k]? = some (.int (n : Int)) := iN_get (l := plainL) h
theorem ok_end_of_call (T : Txt K mg t) : FnOk P w K mg base CX0 1 t.f_end_of_call t.d_end_of_call ["calls", "place"] (sp_end_of_call K) := by
  refine T.F_end_of_call.ok sc_end_of_call (fun vs H Q E h => ?_) (fun cdv A outer s H vs Q E hr h => ?_)
  · obtain ⟨_, _, _, _, _, rfl, _⟩ := h
    rfl
  · obtain ⟨a, ns, pl, k, e, rfl, hS, hg, hE, kk⟩ := h
    have hu := hu_of hr
    refine ⟨_, (pss_cons (ps_set (i := 2) sc_end_of_call.nd rfl (Or.inl rfl) (pe_op op_add (pe_op op_add (pv 1) pe_int) (pe_ix ix_tup (pe_glob (v := .ref t.pn) rfl T.g_PLAIN rfl) (pe_ix ix_list (pv 0) (pv 1) (fun _ _ => rfl)) (fun _ _ => rfl)))) (pss_cons (ps_if (pt_cmpR op_eq (pe_ix ix_list (pv 0) (pv 1) (fun _ _ => rfl)) (pe_gint rfl T.c_START) (nomark _)) (pss_one (ps_aug (i := 2) sc_end_of_call.nd rfl (Or.inl rfl) (pe_op op_add pe_int (pe_ix ix_list (pv 0) (pv 2) (fun _ _ => rfl))) ip_add)) pss_nil) (pss_one (ps_ret (pv 2))))), ?_⟩
    obtain ⟨n, hn, hE⟩ := hE
    refine ⟨_, rfl, _, _, rfl, rfl, _, rfl, _, rfl, a, _, _, _, rfl, rfl, hS, atI_nat (map_get hg), t.pn, _, _, _, rfl, rfl, T.plain H, atI_nat (plain_get hn), _, _, rfl, rfl, ?_⟩
    refine ⟨_, rfl, _, rfl, a, _, _, _, rfl, rfl, hS, atI_nat (map_get hg), rfl, _, rfl, ite2 (fun c1 => ?_) (fun c1 => ?_)⟩
    · have hk : k = 0 := by have := of_decide_eq_true c1; injection this with this; omega
      rcases hE with ⟨h0, _⟩ | ⟨_, c, hc, he⟩
      · exact absurd hk h0
      · refine ⟨_, rfl, _, rfl, _, rfl, a, _, _, _, rfl, rfl, hS, at_of (j := pl + 1 + n) (by omega) (map_get hc), _, _, rfl, rfl, _, _, rfl, rfl, _, rfl, ?_⟩
        show Q (.int ((pl : Int) + 1 + (n : Int) + (1 + (c : Int)))) H
        rw [show (pl : Int) + 1 + (n : Int) + (1 + (c : Int)) = (e : Int) by omega]
        exact kk
    · have hk : k ≠ 0 := fun z => c1 (by subst z; exact decide_eq_true rfl)
      rcases hE with ⟨_, he⟩ | ⟨h0, _⟩
      · refine ⟨_, rfl, ?_⟩
        show Q (.int ((pl : Int) + 1 + (n : Int))) H
        rw [show (pl : Int) + 1 + (n : Int) = (e : Int) by omega]
        exact kk
      · exact absurd h0 hk
def sp_answers (K : PySem.W.Frag) : Sp := fun vs H Q _ => ∃ (a : Addr) (ns : List Int), vs = [.ref a] ∧ SqL K H a (ns.map V.int) ∧ PyKqv1.answers_asked ns = true ∧ ∀ (H' : Hp) (q : Addr), H' q = some (.lst ((PyKqv1.answers ns).map V.int)) → Q (.ref q) H'
theorem told_cons (a : List Int) (l : List (List Int)) : PyFlat.told (a :: l) = ((a.length : Int) :: a) ++ PyFlat.told l := by
  unfold PyFlat.told; rw [List.flatMap_cons]
theorem calls_cons {f : Nat} {p : Int} {r : List Int} {cs : List (List (List Int))} (h : PyFlat.calls PyKqv1.shape f (p :: r) = some cs) : ∃ f' c t' cs', PyFlat.call PyKqv1.shape (p :: r) = some (c, t') ∧ PyFlat.calls PyKqv1.shape f' t' = some cs' ∧ cs = c :: cs' := by
  cases f with
  | zero => simp [PyFlat.calls] at h
  | succ f =>
    simp only [PyFlat.calls] at h
    cases e : PyFlat.call PyKqv1.shape (p :: r) with
    | none => rw [e] at h; cases h
    | some q =>
      obtain ⟨c, t'⟩ := q
      rw [e] at h
      simp only at h
      cases e2 : PyFlat.calls PyKqv1.shape f t' with
      | none => rw [e2] at h; cases h
      | some cs' =>
        rw [e2] at h
        exact ⟨f, c, t', cs', rfl, e2, (Option.some.inj h).symm⟩
theorem calls_nil {f : Nat} {cs : List (List (List Int))} (h : PyFlat.calls PyKqv1.shape f [] = some cs) : cs = [] := by
  cases f <;> exact (Option.some.inj h).symm
theorem asked_of {ns : List Int} (h : PyKqv1.answers_asked ns = true) : ∃ raw, PyFlat.calls PyKqv1.shape ns.length ns = some raw ∧ raw.all (PyInside.call PyKqv1.bound) = true ∧ (PyKqv1.answers ns).length ≤ 10000000 ∧ PyKqv1.answers ns = PyFlat.told (PyFlat.played Kqv1Neutral.step none (raw.map PyKqv1.whole)) := by
  unfold PyKqv1.answers_asked at h
  cases e : PyFlat.calls PyKqv1.shape ns.length ns with
  | none => rw [e] at h; cases h
  | some raw =>
    rw [e] at h
    simp only [Bool.and_eq_true] at h
    refine ⟨raw, rfl, h.1.1.2, ?_, ?_⟩
    · have := h.2
      unfold PyFlat.short at this
      simpa using this
    · unfold PyKqv1.answers PyKqv1.calls
      rw [e]
      rfl
theorem One.endAt {ns r t' : List Int} {cn : Int} {c : List (List Int)} {k : Nat} {args : List Nat} {call : Kqv1.Call} {pl : Nat} (o : One cn r c t' k args call) (hd : ns.drop pl = cn :: r) : EndAt ns pl k (pl + 1 + args.length) := by
  obtain ⟨n, h1, h2, h3⟩ := o.n
  refine ⟨n, h1, ?_⟩
  by_cases hk : k = 0
  · obtain ⟨e, c0, h4, h5⟩ := h3 hk
    refine .inr ⟨hk, c0, ?_, by omega⟩
    subst e
    have h6 : r[2]? = some (c0 : Int) := by
      have h7 : (r.take args.length)[2]? = some (c0 : Int) := by rw [o.tak, List.getElem?_map, h4]; rfl
      rw [List.getElem?_take_of_lt (by omega)] at h7
      exact h7
    have h8 : (ns.drop pl)[3]? = some (c0 : Int) := by rw [hd]; exact h6
    rw [List.getElem?_drop] at h8
    exact h8
  · exact .inl ⟨hk, by rw [h2 hk]⟩
theorem One.cut {ns r t' : List Int} {cn : Int} {c : List (List Int)} {k : Nat} {args : List Nat} {call : Kqv1.Call} {pl : Nat} (o : One cn r c t' k args call) (hd : ns.drop pl = cn :: r) : cutV (ns.map V.int) (some ((pl + 1 : Nat) : Int)) (some ((pl + 1 + args.length : Nat) : Int)) = iN args ∧ t' = ns.drop (pl + 1 + args.length) ∧ pl + 1 + args.length ≤ ns.length := by
  have hr : r = ns.drop (pl + 1) := by
    have := congrArg (List.drop 1) hd
    rw [List.drop_drop] at this
    exact this.symm
  have hlen : r.length = ns.length - (pl + 1) := by rw [hr, List.length_drop]
  have hpl : pl < ns.length := by
    by_cases z : pl < ns.length
    · exact z
    · rw [List.drop_eq_nil_of_le (by omega)] at hd; cases hd
  have hle := o.len
  refine ⟨?_, by rw [o.rest, hr, List.drop_drop], by omega⟩
  unfold cutV
  rw [HT.sIx_nat, HT.sIx_nat, List.length_map, Nat.min_eq_left (show pl + 1 ≤ ns.length by omega), Nat.min_eq_left (show pl + 1 + args.length ≤ ns.length by omega), show pl + 1 + args.length - (pl + 1) = args.length by omega, ← List.map_drop, ← List.map_take, ← hr, o.tak]
theorem MAt.put {t : Adr} {H : Hp} {p na pa sa q : Addr} {m : Mould} {vs : List V} {u : HO} (h : MAt t H p na pa sa m) (hq : H q = some (.lst vs)) (h1 : q ≠ p) (h2 : q ≠ na) (h3 : q ≠ pa) (h4 : q ≠ sa) : MAt t (upd H q u) p na pa sa m := by
  obtain ⟨dx, hp⟩ := h.ins
  obtain ⟨es, hd, hpl, hperm⟩ := h.plies
  refine ⟨⟨dx, at_upd hp h1.symm⟩, at_upd h.need h2.symm, at_upd h.stock h4.symm, ⟨es, at_upd hd h3.symm, fun e he => ?_, hperm⟩, h.ns⟩
  obtain ⟨da, hx⟩ := hpl e he
  exact ⟨da, at_upd hx (ne_of hx hq (by intro z; cases z))⟩
theorem MSt.put {t : Adr} {H : Hp} {p na pa sa q : Addr} {s : Option Mould} {vs : List V} {u : HO} (h : MSt t H p na pa sa s) (hq : H q = some (.lst vs)) (h1 : q ≠ p) (h2 : q ≠ na) (h3 : q ≠ pa) (h4 : q ≠ sa) : MSt t (upd H q u) p na pa sa s := by
  cases h with
  | no h => exact .no (h.put hq h1 h2 h3 h4)
  | yes h hF => exact .yes (h.put hq h1 h2 h3 h4) hF
theorem ok_answers (T : Txt K mg t) : FnOk P w K mg base CX0 8 t.f_answers t.d_answers ["calls"] (sp_answers K) := by
  refine T.F_answers.ok sc_answers (fun vs H Q E h => ?_) (fun cdv A outer s H vs Q E hr h => ?_)
  · obtain ⟨_, _, rfl, _⟩ := h
    rfl
  · obtain ⟨a, ns, rfl, hS, hask, kk⟩ := h
    have hu := hu_of hr
    refine ⟨_, (pss_cons (ps_set (i := 1) sc_answers.nd rfl (Or.inl rfl) (pe_lst pa_nil)) (pss_cons (ps_set (i := 2) sc_answers.nd rfl (Or.inl rfl) (pe_make0 T.mkMould (ok_init_Mould T) (hr.mono (by decide)) rfl T.g_Mould T.b_init_Mould .nil pass0)) (pss_cons (ps_set (i := 3) sc_answers.nd rfl (Or.inl rfl) pe_int) (pss_cons (ps_while PassesOwn.never (pt_cmpR op_lt (pv 3) (pe_callB call_len_seq rfl T.n_len PySem.boot_len (pa_cons (pv 0) pa_nil)) (nomark _)) (pss_cons (ps_set (i := 4) sc_answers.nd rfl (Or.inl rfl) (pe_call (ok_end_of_call T) (hr.mono (by decide)) rfl T.g_end_of_call T.F_end_of_call.kp T.b_end_of_call .nil pass0 (pa_cons (pv 0) (pa_cons (pv 3) pa_nil)))) (pss_cons (ps_set (i := 5) sc_answers.nd rfl (Or.inl rfl) (pe_call (ok_answer_call T) (hr.mono (by decide)) rfl T.g_answer_call T.F_answer_call.kp T.b_answer_call .nil pass0 (pa_cons (pv 2) (pa_cons (pe_ix ix_list (pv 0) (pv 3) (fun _ _ => rfl)) (pa_cons (pe_slice sl_list (pv 0) (po_some (pe_op op_add (pv 3) pe_int)) (po_some (pv 4))) pa_nil))))) (pss_cons (ps_expr (pe_bm PySem.F.plainAttrs_list PySem.F.slot_list_append PySem.F.type_list_append mt_append (pv 1) (pa_cons (pe_callB call_len_seq rfl T.n_len PySem.boot_len (pa_cons (pv 5) pa_nil)) pa_nil))) (pss_cons (ps_expr (pe_bm PySem.F.plainAttrs_list PySem.F.slot_list_extend PySem.F.type_list_extend mt_extend (pv 1) (pa_cons (pv 5) pa_nil))) (pss_one (ps_set (i := 3) sc_answers.nd rfl (Or.inl rfl) (pv 4)))))))) (pss_one (ps_ret (pv 1))))))), ?_⟩
    obtain ⟨raw, hraw, hbd, hshort, hans⟩ := asked_of hask
    refine ⟨Nat.zero_le _, fun an han => ?_⟩
    have s0 := same_new (o := .lst []) han
    refine fun x d1 n0 n1 n2 => ⟨x, d1, rfl, upd_same, fun H1 na pa sa hM0 f1 f2 f3 fr => ⟨rfl, ?_⟩⟩
    have s1 : Same (upd H an (.lst [])) H1 := Same.made n0 n1 fr
    have hanx : an ≠ x := ne_of_none upd_same n0
    have base1 : ∀ b o, (upd H an (.lst [])) b = some o → b ≠ x ∧ b ≠ na ∧ b ≠ pa ∧ b ≠ sa := fun b o hb => by
      have hbx : b ≠ x := ne_of_none hb n0
      have hb2 : (upd (upd (upd H an (.lst [])) d1 (.own x)) x (.ins t.cM d1 [])) b = some o := at_upd (at_new hb n1) hbx
      exact ⟨hbx, ne_of_none hb2 f1, ne_of_none hb2 f2, ne_of_none hb2 f3⟩
    refine ⟨fun j σ H' => ∃ (pl : Nat) (s : Option Mould) (na pa sa : Addr) (out : List Int) (f : Nat) (cs : List (List (List Int))) (v4 v5 : Option V), σ = [some (.ref a), some (.ref an), some (.ref x), some (.int pl), v4, v5] ∧ pl + j = ns.length ∧ (∀ b o, H b = some o → H' b = some o ∧ b ≠ x ∧ b ≠ na ∧ b ≠ pa ∧ b ≠ sa ∧ b ≠ an) ∧
      (an ≠ na ∧ an ≠ pa ∧ an ≠ sa) ∧ MSt t H' x na pa sa s ∧ H' an = some (.lst (out.map V.int)) ∧ PyFlat.calls PyKqv1.shape f (ns.drop pl) = some cs ∧ cs.all (PyInside.call PyKqv1.bound) = true ∧ PyKqv1.answers ns = out ++ PyFlat.told (PyFlat.played Kqv1Neutral.step s (cs.map PyKqv1.whole)),
      ⟨ns.length, 0, none, na, pa, sa, [], ns.length, raw, none, none, rfl, Nat.zero_add _, fun b o hb => ?_, (base1 an _ upd_same).2, .no hM0, s1 _ _ upd_same, hraw, hbd, hans⟩, ?_⟩
    · obtain ⟨g1, g2, g3, g4⟩ := base1 b o (s0 _ _ hb)
      exact ⟨s1 _ _ (s0 _ _ hb), g1, g2, g3, g4, ne_of_none hb han⟩
    · rintro j σ H' ⟨pl, s, na, pa, sa, out, f, cs, v4, v5, rfl, hj, hk, ⟨ha1, ha2, ha3⟩, hMS, hout, hcs, hcb, hres⟩
      have sH : Same H H' := fun b o hb => (hk b o hb).1
      have hS' := sH.seq hS
      refine ⟨_, rfl, _, rfl, a, _, rfl, .inl hS', _, _, rfl, rfl, _, rfl, ite2 (fun c1 => ?_) (fun c1 => ?_)⟩
      · rw [List.length_map] at c1
        have c1 : pl < ns.length := by have := of_decide_eq_true c1; omega
        obtain ⟨cn, r, hd⟩ : ∃ cn r, ns.drop pl = cn :: r := ⟨_, _, List.drop_eq_getElem_cons c1⟩
        rw [hd] at hcs
        obtain ⟨f', c, t', cs', hc1, hc2, rfl⟩ := calls_cons hcs
        rw [List.all_cons, Bool.and_eq_true] at hcb
        obtain ⟨k, args, call, o⟩ := parse_one hc1 hcb.1
        obtain ⟨hcut, ht', hle⟩ := o.cut hd
        have hget : ns[pl]? = some (k : Int) := by
          have : (ns.drop pl)[0]? = some cn := by rw [hd]; rfl
          rw [List.getElem?_drop, o.cn] at this
          exact this
        have hstep : ∀ s, Kqv1Neutral.step s (PyKqv1.whole c) = ((Kqv1.step s call).1, Kqv1Neutral.tell (Kqv1.step s call).2) := fun s => by
          unfold Kqv1Neutral.step
          rw [o.of]
        have hres2 : PyKqv1.answers ns = (out ++ (((Kqv1Neutral.tell (Kqv1.step s call).2).length : Int) :: Kqv1Neutral.tell (Kqv1.step s call).2)) ++ PyFlat.told (PyFlat.played Kqv1Neutral.step (Kqv1.step s call).1 (cs'.map PyKqv1.whole)) := by
          rw [hres, List.map_cons]
          show out ++ PyFlat.told ((Kqv1Neutral.step s (PyKqv1.whole c)).2 :: PyFlat.played Kqv1Neutral.step (Kqv1Neutral.step s (PyKqv1.whole c)).1 (cs'.map PyKqv1.whole)) = _
          rw [told_cons, hstep, List.append_assoc]
        have hsize : out.length + 1 + (Kqv1Neutral.tell (Kqv1.step s call).2).length ≤ 10000000 := by
          have := congrArg List.length hres2
          rw [List.length_append, List.length_append, List.length_cons] at this
          omega
        have hline : (10000000 : Nat) < sizeLine := by decide
        refine ⟨fun σ' H2 => ∃ j', j' < j ∧ ∃ (pl : Nat) (s : Option Mould) (na pa sa : Addr) (out : List Int) (f : Nat) (cs : List (List (List Int))) (v4 v5 : Option V), σ' = [some (.ref a), some (.ref an), some (.ref x), some (.int pl), v4, v5] ∧ pl + j' = ns.length ∧ (∀ b o, H b = some o → H2 b = some o ∧ b ≠ x ∧ b ≠ na ∧ b ≠ pa ∧ b ≠ sa ∧ b ≠ an) ∧
          (an ≠ na ∧ an ≠ pa ∧ an ≠ sa) ∧ MSt t H2 x na pa sa s ∧ H2 an = some (.lst (out.map V.int)) ∧ PyFlat.calls PyKqv1.shape f (ns.drop pl) = some cs ∧ cs.all (PyInside.call PyKqv1.bound) = true ∧ PyKqv1.answers ns = out ++ PyFlat.told (PyFlat.played Kqv1Neutral.step s (cs.map PyKqv1.whole)), fun σ' H2 h => h, ?_⟩
        refine ⟨_, rfl, _, rfl, a, ns, pl, k, pl + 1 + args.length, rfl, hS', hget, o.endAt hd, ?_⟩
        refine ⟨_, rfl, _, rfl, _, rfl, a, _, _, _, rfl, rfl, hS', atI_nat (map_get hget), _, rfl, _, rfl, _, _, rfl, rfl, ((pl + 1 : Nat) : Int), rfl, _, rfl, ((pl + 1 + args.length : Nat) : Int), rfl, a, _, rfl, hS', fun l hl => ?_⟩
        rw [hcut]
        have sl := same_new (o := .lst (iN args)) hl
        refine ⟨x, l, na, pa, sa, s, k, args, call, rfl, hMS.same sl, upd_same, o.is, fun H3 na' pa' sa' r hM3 hK hr hf => ?_⟩
        have hao := sl _ _ hout
        obtain ⟨ho3, b1, b2, b3⟩ := hK.keep an _ hao hanx ha1 ha2 ha3
        have har : an ≠ r := hf an _ hao hanx ha1 ha2 ha3
        refine ⟨_, rfl, .inl ⟨rfl, _, SqL.of ho3⟩, _, rfl, r, _, rfl, .inl (SqL.of hr), an, _, _, rfl, rfl, ho3, (by rw [List.length_map]; omega), ?_⟩
        refine ⟨_, rfl, .inl ⟨rfl, _, SqL.of upd_same⟩, _, rfl, an, r, _, _, rfl, rfl, upd_same, at_upd hr har.symm, (by rw [List.length_append, List.length_map, List.length_map]; show out.length + 1 + _ ≤ _; omega), ?_⟩
        refine ⟨_, rfl, ns.length - (pl + 1 + args.length), by omega, pl + 1 + args.length, (Kqv1.step s call).1, na', pa', sa', out ++ (((Kqv1Neutral.tell (Kqv1.step s call).2).length : Int) :: Kqv1Neutral.tell (Kqv1.step s call).2), f', cs', _, _, rfl, by omega, fun b o' hb => ?_, ⟨b1, b2, b3⟩, ?_, ?_, by rw [← ht']; exact hc2, hcb.2, hres2⟩
        · obtain ⟨g0, g1, g2, g3, g4, g5⟩ := hk b o' hb
          obtain ⟨q0, q1, q2, q3⟩ := hK.keep b _ (sl _ _ g0) g1 g2 g3 g4
          exact ⟨at_upd (at_upd q0 g5) g5, g1, q1, q2, q3, g5⟩
        · exact (hM3.put ho3 hanx b1 b2 b3).put upd_same hanx b1 b2 b3
        · rw [upd_same]
          simp
      · rw [List.length_map] at c1
        have c1 : ¬ pl < ns.length := fun z => c1 (decide_eq_true (by omega))
        have hpl : pl = ns.length := by omega
        rw [hpl, List.drop_length] at hcs
        have := calls_nil hcs
        subst this
        have hfin : PyKqv1.answers ns = out := by rw [hres]; exact List.append_nil out
        refine ⟨_, rfl, kk H' an ?_⟩
        rw [hfin]
        exact hout
end
end Bm
end
section
set_option Elab.async false
set_option linter.all false
set_option maxRecDepth 100000
set_option maxHeartbeats 4000000
namespace Bm
open PySem PySem.Spec PyProof.Rows L2
theorem all_mk {P : Program} {w : World} {K : PySem.W.Frag} {h : Heap} {mg : Str → Option Value} {fa cM cP pn dC : Addr}
    {f_count_ends f_runs_lacking f_plan_spans f_fewest_spans f_longest_run f_init_Ply f_init_Mould f_begin f_station_count f_is_begun f_has_station f_stack_at f_kinds_at f_alike_at f_layers_at f_missing_at f_lacking f_planned f_planned_fabric f_ends_with f_has_ends_for f_fabric_of f_fabric_in_plies f_least_free_number f_lay_ply f_lift_ply f_swap_plies f_start f_set_need f_roll f_lay f_lift f_missing f_lacks f_fewest f_plan f_goes f_fabric f_follow f_ends f_worst f_stack f_kinds f_alike f_swap f_stock f_metres f_state f_answer_call f_end_of_call f_answers : Addr}
    {od_count_ends an_count_ends od_runs_lacking an_runs_lacking od_plan_spans an_plan_spans od_fewest_spans an_fewest_spans od_longest_run an_longest_run od_init_Ply an_init_Ply od_init_Mould an_init_Mould od_begin an_begin od_station_count an_station_count od_is_begun an_is_begun od_has_station an_has_station od_stack_at an_stack_at od_kinds_at an_kinds_at od_alike_at an_alike_at od_layers_at an_layers_at od_missing_at an_missing_at od_lacking an_lacking od_planned an_planned od_planned_fabric an_planned_fabric od_ends_with an_ends_with od_has_ends_for an_has_ends_for od_fabric_of an_fabric_of od_fabric_in_plies an_fabric_in_plies od_least_free_number an_least_free_number od_lay_ply an_lay_ply od_lift_ply an_lift_ply od_swap_plies an_swap_plies od_start an_start od_set_need an_set_need od_roll an_roll od_lay an_lay od_lift an_lift od_missing an_missing od_lacks an_lacks od_fewest an_fewest od_plan an_plan od_goes an_goes od_fabric an_fabric od_follow an_follow od_ends an_ends od_worst an_worst od_stack an_stack od_kinds an_kinds od_alike an_alike od_swap an_swap od_stock an_stock od_metres an_metres od_state an_state od_answer_call an_answer_call od_end_of_call an_end_of_call od_answers an_answers : Option Addr}
    {sl_count_ends sl_runs_lacking sl_plan_spans sl_fewest_spans sl_longest_run sl_init_Ply sl_init_Mould sl_begin sl_station_count sl_is_begun sl_has_station sl_stack_at sl_kinds_at sl_alike_at sl_layers_at sl_missing_at sl_lacking sl_planned sl_planned_fabric sl_ends_with sl_has_ends_for sl_fabric_of sl_fabric_in_plies sl_least_free_number sl_lay_ply sl_lift_ply sl_swap_plies sl_start sl_set_need sl_roll sl_lay sl_lift sl_missing sl_lacks sl_fewest sl_plan sl_goes sl_fabric sl_follow sl_ends sl_worst sl_stack sl_kinds sl_alike sl_swap sl_stock sl_metres sl_state sl_answer_call sl_end_of_call sl_answers : Array (Option Value)}
    {oc_count_ends kV_count_ends dc_count_ends pm_count_ends cd_count_ends ct_count_ends oc_runs_lacking kV_runs_lacking dc_runs_lacking pm_runs_lacking cd_runs_lacking ct_runs_lacking oc_plan_spans kV_plan_spans dc_plan_spans pm_plan_spans cd_plan_spans ct_plan_spans oc_fewest_spans kV_fewest_spans dc_fewest_spans pm_fewest_spans cd_fewest_spans ct_fewest_spans oc_longest_run kV_longest_run dc_longest_run pm_longest_run cd_longest_run ct_longest_run oc_init_Ply kV_init_Ply dc_init_Ply pm_init_Ply cd_init_Ply ct_init_Ply oc_init_Mould kV_init_Mould dc_init_Mould pm_init_Mould cd_init_Mould ct_init_Mould oc_begin kV_begin dc_begin pm_begin cd_begin ct_begin oc_station_count kV_station_count dc_station_count pm_station_count cd_station_count ct_station_count oc_is_begun kV_is_begun dc_is_begun pm_is_begun cd_is_begun ct_is_begun oc_has_station kV_has_station dc_has_station pm_has_station cd_has_station ct_has_station oc_stack_at kV_stack_at dc_stack_at pm_stack_at cd_stack_at ct_stack_at oc_kinds_at kV_kinds_at dc_kinds_at pm_kinds_at cd_kinds_at ct_kinds_at oc_alike_at kV_alike_at dc_alike_at pm_alike_at cd_alike_at ct_alike_at oc_layers_at kV_layers_at dc_layers_at pm_layers_at cd_layers_at ct_layers_at oc_missing_at kV_missing_at dc_missing_at pm_missing_at cd_missing_at ct_missing_at oc_lacking kV_lacking dc_lacking pm_lacking cd_lacking ct_lacking oc_planned kV_planned dc_planned pm_planned cd_planned ct_planned oc_planned_fabric kV_planned_fabric dc_planned_fabric pm_planned_fabric cd_planned_fabric ct_planned_fabric oc_ends_with kV_ends_with dc_ends_with pm_ends_with cd_ends_with ct_ends_with oc_has_ends_for kV_has_ends_for dc_has_ends_for pm_has_ends_for cd_has_ends_for ct_has_ends_for oc_fabric_of kV_fabric_of dc_fabric_of pm_fabric_of cd_fabric_of ct_fabric_of oc_fabric_in_plies kV_fabric_in_plies dc_fabric_in_plies pm_fabric_in_plies cd_fabric_in_plies ct_fabric_in_plies oc_least_free_number kV_least_free_number dc_least_free_number pm_least_free_number cd_least_free_number ct_least_free_number oc_lay_ply kV_lay_ply dc_lay_ply pm_lay_ply cd_lay_ply ct_lay_ply oc_lift_ply kV_lift_ply dc_lift_ply pm_lift_ply cd_lift_ply ct_lift_ply oc_swap_plies kV_swap_plies dc_swap_plies pm_swap_plies cd_swap_plies ct_swap_plies oc_start kV_start dc_start pm_start cd_start ct_start oc_set_need kV_set_need dc_set_need pm_set_need cd_set_need ct_set_need oc_roll kV_roll dc_roll pm_roll cd_roll ct_roll oc_lay kV_lay dc_lay pm_lay cd_lay ct_lay oc_lift kV_lift dc_lift pm_lift cd_lift ct_lift oc_missing kV_missing dc_missing pm_missing cd_missing ct_missing oc_lacks kV_lacks dc_lacks pm_lacks cd_lacks ct_lacks oc_fewest kV_fewest dc_fewest pm_fewest cd_fewest ct_fewest oc_plan kV_plan dc_plan pm_plan cd_plan ct_plan oc_goes kV_goes dc_goes pm_goes cd_goes ct_goes oc_fabric kV_fabric dc_fabric pm_fabric cd_fabric ct_fabric oc_follow kV_follow dc_follow pm_follow cd_follow ct_follow oc_ends kV_ends dc_ends pm_ends cd_ends ct_ends oc_worst kV_worst dc_worst pm_worst cd_worst ct_worst oc_stack kV_stack dc_stack pm_stack cd_stack ct_stack oc_kinds kV_kinds dc_kinds pm_kinds cd_kinds ct_kinds oc_alike kV_alike dc_alike pm_alike cd_alike ct_alike oc_swap kV_swap dc_swap pm_swap cd_swap ct_swap oc_stock kV_stock dc_stock pm_stock cd_stock ct_stock oc_metres kV_metres dc_metres pm_metres cd_metres ct_metres oc_state kV_state dc_state pm_state cd_state ct_state oc_answer_call kV_answer_call dc_answer_call pm_answer_call cd_answer_call ct_answer_call oc_end_of_call kV_end_of_call dc_end_of_call pm_end_of_call cd_end_of_call ct_end_of_call oc_answers kV_answers dc_answers pm_answers cd_answers ct_answers : Value}
    {tk_KINDS tk_NO_SUCH_PLY tk_NOT_STARTED tk_TOO_LITTLE_FABRIC tk_TOO_MANY_ENDS tk_TOO_MANY_LAYERS tk_WRONG_NUMBER tk_TOO_MANY_PLIES tk_NOTHING_MISSING tk_START tk_LONGEST tk_MOST_ENDS tk_MOST_STATIONS tk_MOST_NEEDED tk_MOST_STOCK tk_MOST_PLIES : Tok}
    {odP : Option Addr} {itsP : Array Value} {nP : Nat} {slP : Array (Option Value)} {esC : Array DictEntry} {epC : Nat} (X : K.In h) (G : h.Ns mainGlobals mg) (hfa : mg "answers" = some (.ref fa))
    (gM : PySem.W.nsIn K mainGlobals "Mould" = some (some (.ref cM)))
    (gP : PySem.W.nsIn K mainGlobals "Ply" = some (some (.ref cP)))
    (a_count_ends : PySem.W.nsIn K mainGlobals "count_ends" = some (some (.ref f_count_ends)))
    (l_count_ends : K.lookup f_count_ends = some ⟨oc_count_ends, od_count_ends, .func (PySem.W.fnOf "count_ends" "count_ends" (defArgs s_count_ends) (defBody s_count_ends) (defScope s_count_ends) .none kV_count_ends dc_count_ends pm_count_ends an_count_ends cd_count_ends ct_count_ends), sl_count_ends⟩)
    (c_count_ends : PySem.W.codeIn K cd_count_ends "count_ends" = true)
    (k_count_ends : PySem.W.keepIn K (.ref f_count_ends) = true)
    (a_runs_lacking : PySem.W.nsIn K mainGlobals "runs_lacking" = some (some (.ref f_runs_lacking)))
    (l_runs_lacking : K.lookup f_runs_lacking = some ⟨oc_runs_lacking, od_runs_lacking, .func (PySem.W.fnOf "runs_lacking" "runs_lacking" (defArgs s_runs_lacking) (defBody s_runs_lacking) (defScope s_runs_lacking) .none kV_runs_lacking dc_runs_lacking pm_runs_lacking an_runs_lacking cd_runs_lacking ct_runs_lacking), sl_runs_lacking⟩)
    (c_runs_lacking : PySem.W.codeIn K cd_runs_lacking "runs_lacking" = true)
    (k_runs_lacking : PySem.W.keepIn K (.ref f_runs_lacking) = true)
    (a_plan_spans : PySem.W.nsIn K mainGlobals "plan_spans" = some (some (.ref f_plan_spans)))
    (l_plan_spans : K.lookup f_plan_spans = some ⟨oc_plan_spans, od_plan_spans, .func (PySem.W.fnOf "plan_spans" "plan_spans" (defArgs s_plan_spans) (defBody s_plan_spans) (defScope s_plan_spans) .none kV_plan_spans dc_plan_spans pm_plan_spans an_plan_spans cd_plan_spans ct_plan_spans), sl_plan_spans⟩)
    (c_plan_spans : PySem.W.codeIn K cd_plan_spans "plan_spans" = true)
    (k_plan_spans : PySem.W.keepIn K (.ref f_plan_spans) = true)
    (a_fewest_spans : PySem.W.nsIn K mainGlobals "fewest_spans" = some (some (.ref f_fewest_spans)))
    (l_fewest_spans : K.lookup f_fewest_spans = some ⟨oc_fewest_spans, od_fewest_spans, .func (PySem.W.fnOf "fewest_spans" "fewest_spans" (defArgs s_fewest_spans) (defBody s_fewest_spans) (defScope s_fewest_spans) .none kV_fewest_spans dc_fewest_spans pm_fewest_spans an_fewest_spans cd_fewest_spans ct_fewest_spans), sl_fewest_spans⟩)
    (c_fewest_spans : PySem.W.codeIn K cd_fewest_spans "fewest_spans" = true)
    (k_fewest_spans : PySem.W.keepIn K (.ref f_fewest_spans) = true)
    (a_longest_run : PySem.W.nsIn K mainGlobals "longest_run" = some (some (.ref f_longest_run)))
    (l_longest_run : K.lookup f_longest_run = some ⟨oc_longest_run, od_longest_run, .func (PySem.W.fnOf "longest_run" "longest_run" (defArgs s_longest_run) (defBody s_longest_run) (defScope s_longest_run) .none kV_longest_run dc_longest_run pm_longest_run an_longest_run cd_longest_run ct_longest_run), sl_longest_run⟩)
    (c_longest_run : PySem.W.codeIn K cd_longest_run "longest_run" = true)
    (k_longest_run : PySem.W.keepIn K (.ref f_longest_run) = true)
    (a_init_Ply : PySem.W.findIn K (.ref cP) "__init__" = some (some (.ref f_init_Ply)))
    (i_init_Ply : PySem.W.isFn K (.ref f_init_Ply) = true)
    (l_init_Ply : K.lookup f_init_Ply = some ⟨oc_init_Ply, od_init_Ply, .func (PySem.W.fnOf "__init__" "Ply.__init__" (defArgs s_init_Ply) (defBody s_init_Ply) (defScope s_init_Ply) .none kV_init_Ply dc_init_Ply pm_init_Ply an_init_Ply cd_init_Ply ct_init_Ply), sl_init_Ply⟩)
    (c_init_Ply : PySem.W.codeIn K cd_init_Ply "Ply.__init__" = true)
    (k_init_Ply : PySem.W.keepIn K (.ref f_init_Ply) = true)
    (a_init_Mould : PySem.W.findIn K (.ref cM) "__init__" = some (some (.ref f_init_Mould)))
    (i_init_Mould : PySem.W.isFn K (.ref f_init_Mould) = true)
    (l_init_Mould : K.lookup f_init_Mould = some ⟨oc_init_Mould, od_init_Mould, .func (PySem.W.fnOf "__init__" "Mould.__init__" (defArgs s_init_Mould) (defBody s_init_Mould) (defScope s_init_Mould) .none kV_init_Mould dc_init_Mould pm_init_Mould an_init_Mould cd_init_Mould ct_init_Mould), sl_init_Mould⟩)
    (c_init_Mould : PySem.W.codeIn K cd_init_Mould "Mould.__init__" = true)
    (k_init_Mould : PySem.W.keepIn K (.ref f_init_Mould) = true)
    (a_begin : PySem.W.findIn K (.ref cM) "begin" = some (some (.ref f_begin)))
    (i_begin : PySem.W.isFn K (.ref f_begin) = true)
    (l_begin : K.lookup f_begin = some ⟨oc_begin, od_begin, .func (PySem.W.fnOf "begin" "Mould.begin" (defArgs s_begin) (defBody s_begin) (defScope s_begin) .none kV_begin dc_begin pm_begin an_begin cd_begin ct_begin), sl_begin⟩)
    (c_begin : PySem.W.codeIn K cd_begin "Mould.begin" = true)
    (k_begin : PySem.W.keepIn K (.ref f_begin) = true)
    (a_station_count : PySem.W.findIn K (.ref cM) "station_count" = some (some (.ref f_station_count)))
    (i_station_count : PySem.W.isFn K (.ref f_station_count) = true)
    (l_station_count : K.lookup f_station_count = some ⟨oc_station_count, od_station_count, .func (PySem.W.fnOf "station_count" "Mould.station_count" (defArgs s_station_count) (defBody s_station_count) (defScope s_station_count) .none kV_station_count dc_station_count pm_station_count an_station_count cd_station_count ct_station_count), sl_station_count⟩)
    (c_station_count : PySem.W.codeIn K cd_station_count "Mould.station_count" = true)
    (k_station_count : PySem.W.keepIn K (.ref f_station_count) = true)
    (a_is_begun : PySem.W.findIn K (.ref cM) "is_begun" = some (some (.ref f_is_begun)))
    (i_is_begun : PySem.W.isFn K (.ref f_is_begun) = true)
    (l_is_begun : K.lookup f_is_begun = some ⟨oc_is_begun, od_is_begun, .func (PySem.W.fnOf "is_begun" "Mould.is_begun" (defArgs s_is_begun) (defBody s_is_begun) (defScope s_is_begun) .none kV_is_begun dc_is_begun pm_is_begun an_is_begun cd_is_begun ct_is_begun), sl_is_begun⟩)
    (c_is_begun : PySem.W.codeIn K cd_is_begun "Mould.is_begun" = true)
    (k_is_begun : PySem.W.keepIn K (.ref f_is_begun) = true)
    (a_has_station : PySem.W.findIn K (.ref cM) "has_station" = some (some (.ref f_has_station)))
    (i_has_station : PySem.W.isFn K (.ref f_has_station) = true)
    (l_has_station : K.lookup f_has_station = some ⟨oc_has_station, od_has_station, .func (PySem.W.fnOf "has_station" "Mould.has_station" (defArgs s_has_station) (defBody s_has_station) (defScope s_has_station) .none kV_has_station dc_has_station pm_has_station an_has_station cd_has_station ct_has_station), sl_has_station⟩)
    (c_has_station : PySem.W.codeIn K cd_has_station "Mould.has_station" = true)
    (k_has_station : PySem.W.keepIn K (.ref f_has_station) = true)
    (a_stack_at : PySem.W.findIn K (.ref cM) "stack_at" = some (some (.ref f_stack_at)))
    (i_stack_at : PySem.W.isFn K (.ref f_stack_at) = true)
    (l_stack_at : K.lookup f_stack_at = some ⟨oc_stack_at, od_stack_at, .func (PySem.W.fnOf "stack_at" "Mould.stack_at" (defArgs s_stack_at) (defBody s_stack_at) (defScope s_stack_at) .none kV_stack_at dc_stack_at pm_stack_at an_stack_at cd_stack_at ct_stack_at), sl_stack_at⟩)
    (c_stack_at : PySem.W.codeIn K cd_stack_at "Mould.stack_at" = true)
    (k_stack_at : PySem.W.keepIn K (.ref f_stack_at) = true)
    (a_kinds_at : PySem.W.findIn K (.ref cM) "kinds_at" = some (some (.ref f_kinds_at)))
    (i_kinds_at : PySem.W.isFn K (.ref f_kinds_at) = true)
    (l_kinds_at : K.lookup f_kinds_at = some ⟨oc_kinds_at, od_kinds_at, .func (PySem.W.fnOf "kinds_at" "Mould.kinds_at" (defArgs s_kinds_at) (defBody s_kinds_at) (defScope s_kinds_at) .none kV_kinds_at dc_kinds_at pm_kinds_at an_kinds_at cd_kinds_at ct_kinds_at), sl_kinds_at⟩)
    (c_kinds_at : PySem.W.codeIn K cd_kinds_at "Mould.kinds_at" = true)
    (k_kinds_at : PySem.W.keepIn K (.ref f_kinds_at) = true)
    (a_alike_at : PySem.W.findIn K (.ref cM) "alike_at" = some (some (.ref f_alike_at)))
    (i_alike_at : PySem.W.isFn K (.ref f_alike_at) = true)
    (l_alike_at : K.lookup f_alike_at = some ⟨oc_alike_at, od_alike_at, .func (PySem.W.fnOf "alike_at" "Mould.alike_at" (defArgs s_alike_at) (defBody s_alike_at) (defScope s_alike_at) .none kV_alike_at dc_alike_at pm_alike_at an_alike_at cd_alike_at ct_alike_at), sl_alike_at⟩)
    (c_alike_at : PySem.W.codeIn K cd_alike_at "Mould.alike_at" = true)
    (k_alike_at : PySem.W.keepIn K (.ref f_alike_at) = true)
    (a_layers_at : PySem.W.findIn K (.ref cM) "layers_at" = some (some (.ref f_layers_at)))
    (i_layers_at : PySem.W.isFn K (.ref f_layers_at) = true)
    (l_layers_at : K.lookup f_layers_at = some ⟨oc_layers_at, od_layers_at, .func (PySem.W.fnOf "layers_at" "Mould.layers_at" (defArgs s_layers_at) (defBody s_layers_at) (defScope s_layers_at) .none kV_layers_at dc_layers_at pm_layers_at an_layers_at cd_layers_at ct_layers_at), sl_layers_at⟩)
    (c_layers_at : PySem.W.codeIn K cd_layers_at "Mould.layers_at" = true)
    (k_layers_at : PySem.W.keepIn K (.ref f_layers_at) = true)
    (a_missing_at : PySem.W.findIn K (.ref cM) "missing_at" = some (some (.ref f_missing_at)))
    (i_missing_at : PySem.W.isFn K (.ref f_missing_at) = true)
    (l_missing_at : K.lookup f_missing_at = some ⟨oc_missing_at, od_missing_at, .func (PySem.W.fnOf "missing_at" "Mould.missing_at" (defArgs s_missing_at) (defBody s_missing_at) (defScope s_missing_at) .none kV_missing_at dc_missing_at pm_missing_at an_missing_at cd_missing_at ct_missing_at), sl_missing_at⟩)
    (c_missing_at : PySem.W.codeIn K cd_missing_at "Mould.missing_at" = true)
    (k_missing_at : PySem.W.keepIn K (.ref f_missing_at) = true)
    (a_lacking : PySem.W.findIn K (.ref cM) "lacking" = some (some (.ref f_lacking)))
    (i_lacking : PySem.W.isFn K (.ref f_lacking) = true)
    (l_lacking : K.lookup f_lacking = some ⟨oc_lacking, od_lacking, .func (PySem.W.fnOf "lacking" "Mould.lacking" (defArgs s_lacking) (defBody s_lacking) (defScope s_lacking) .none kV_lacking dc_lacking pm_lacking an_lacking cd_lacking ct_lacking), sl_lacking⟩)
    (c_lacking : PySem.W.codeIn K cd_lacking "Mould.lacking" = true)
    (k_lacking : PySem.W.keepIn K (.ref f_lacking) = true)
    (a_planned : PySem.W.findIn K (.ref cM) "planned" = some (some (.ref f_planned)))
    (i_planned : PySem.W.isFn K (.ref f_planned) = true)
    (l_planned : K.lookup f_planned = some ⟨oc_planned, od_planned, .func (PySem.W.fnOf "planned" "Mould.planned" (defArgs s_planned) (defBody s_planned) (defScope s_planned) .none kV_planned dc_planned pm_planned an_planned cd_planned ct_planned), sl_planned⟩)
    (c_planned : PySem.W.codeIn K cd_planned "Mould.planned" = true)
    (k_planned : PySem.W.keepIn K (.ref f_planned) = true)
    (a_planned_fabric : PySem.W.findIn K (.ref cM) "planned_fabric" = some (some (.ref f_planned_fabric)))
    (i_planned_fabric : PySem.W.isFn K (.ref f_planned_fabric) = true)
    (l_planned_fabric : K.lookup f_planned_fabric = some ⟨oc_planned_fabric, od_planned_fabric, .func (PySem.W.fnOf "planned_fabric" "Mould.planned_fabric" (defArgs s_planned_fabric) (defBody s_planned_fabric) (defScope s_planned_fabric) .none kV_planned_fabric dc_planned_fabric pm_planned_fabric an_planned_fabric cd_planned_fabric ct_planned_fabric), sl_planned_fabric⟩)
    (c_planned_fabric : PySem.W.codeIn K cd_planned_fabric "Mould.planned_fabric" = true)
    (k_planned_fabric : PySem.W.keepIn K (.ref f_planned_fabric) = true)
    (a_ends_with : PySem.W.findIn K (.ref cM) "ends_with" = some (some (.ref f_ends_with)))
    (i_ends_with : PySem.W.isFn K (.ref f_ends_with) = true)
    (l_ends_with : K.lookup f_ends_with = some ⟨oc_ends_with, od_ends_with, .func (PySem.W.fnOf "ends_with" "Mould.ends_with" (defArgs s_ends_with) (defBody s_ends_with) (defScope s_ends_with) .none kV_ends_with dc_ends_with pm_ends_with an_ends_with cd_ends_with ct_ends_with), sl_ends_with⟩)
    (c_ends_with : PySem.W.codeIn K cd_ends_with "Mould.ends_with" = true)
    (k_ends_with : PySem.W.keepIn K (.ref f_ends_with) = true)
    (a_has_ends_for : PySem.W.findIn K (.ref cM) "has_ends_for" = some (some (.ref f_has_ends_for)))
    (i_has_ends_for : PySem.W.isFn K (.ref f_has_ends_for) = true)
    (l_has_ends_for : K.lookup f_has_ends_for = some ⟨oc_has_ends_for, od_has_ends_for, .func (PySem.W.fnOf "has_ends_for" "Mould.has_ends_for" (defArgs s_has_ends_for) (defBody s_has_ends_for) (defScope s_has_ends_for) .none kV_has_ends_for dc_has_ends_for pm_has_ends_for an_has_ends_for cd_has_ends_for ct_has_ends_for), sl_has_ends_for⟩)
    (c_has_ends_for : PySem.W.codeIn K cd_has_ends_for "Mould.has_ends_for" = true)
    (k_has_ends_for : PySem.W.keepIn K (.ref f_has_ends_for) = true)
    (a_fabric_of : PySem.W.findIn K (.ref cM) "fabric_of" = some (some (.ref f_fabric_of)))
    (i_fabric_of : PySem.W.isFn K (.ref f_fabric_of) = true)
    (l_fabric_of : K.lookup f_fabric_of = some ⟨oc_fabric_of, od_fabric_of, .func (PySem.W.fnOf "fabric_of" "Mould.fabric_of" (defArgs s_fabric_of) (defBody s_fabric_of) (defScope s_fabric_of) .none kV_fabric_of dc_fabric_of pm_fabric_of an_fabric_of cd_fabric_of ct_fabric_of), sl_fabric_of⟩)
    (c_fabric_of : PySem.W.codeIn K cd_fabric_of "Mould.fabric_of" = true)
    (k_fabric_of : PySem.W.keepIn K (.ref f_fabric_of) = true)
    (a_fabric_in_plies : PySem.W.findIn K (.ref cM) "fabric_in_plies" = some (some (.ref f_fabric_in_plies)))
    (i_fabric_in_plies : PySem.W.isFn K (.ref f_fabric_in_plies) = true)
    (l_fabric_in_plies : K.lookup f_fabric_in_plies = some ⟨oc_fabric_in_plies, od_fabric_in_plies, .func (PySem.W.fnOf "fabric_in_plies" "Mould.fabric_in_plies" (defArgs s_fabric_in_plies) (defBody s_fabric_in_plies) (defScope s_fabric_in_plies) .none kV_fabric_in_plies dc_fabric_in_plies pm_fabric_in_plies an_fabric_in_plies cd_fabric_in_plies ct_fabric_in_plies), sl_fabric_in_plies⟩)
    (c_fabric_in_plies : PySem.W.codeIn K cd_fabric_in_plies "Mould.fabric_in_plies" = true)
    (k_fabric_in_plies : PySem.W.keepIn K (.ref f_fabric_in_plies) = true)
    (a_least_free_number : PySem.W.findIn K (.ref cM) "least_free_number" = some (some (.ref f_least_free_number)))
    (i_least_free_number : PySem.W.isFn K (.ref f_least_free_number) = true)
    (l_least_free_number : K.lookup f_least_free_number = some ⟨oc_least_free_number, od_least_free_number, .func (PySem.W.fnOf "least_free_number" "Mould.least_free_number" (defArgs s_least_free_number) (defBody s_least_free_number) (defScope s_least_free_number) .none kV_least_free_number dc_least_free_number pm_least_free_number an_least_free_number cd_least_free_number ct_least_free_number), sl_least_free_number⟩)
    (c_least_free_number : PySem.W.codeIn K cd_least_free_number "Mould.least_free_number" = true)
    (k_least_free_number : PySem.W.keepIn K (.ref f_least_free_number) = true)
    (a_lay_ply : PySem.W.findIn K (.ref cM) "lay_ply" = some (some (.ref f_lay_ply)))
    (i_lay_ply : PySem.W.isFn K (.ref f_lay_ply) = true)
    (l_lay_ply : K.lookup f_lay_ply = some ⟨oc_lay_ply, od_lay_ply, .func (PySem.W.fnOf "lay_ply" "Mould.lay_ply" (defArgs s_lay_ply) (defBody s_lay_ply) (defScope s_lay_ply) .none kV_lay_ply dc_lay_ply pm_lay_ply an_lay_ply cd_lay_ply ct_lay_ply), sl_lay_ply⟩)
    (c_lay_ply : PySem.W.codeIn K cd_lay_ply "Mould.lay_ply" = true)
    (k_lay_ply : PySem.W.keepIn K (.ref f_lay_ply) = true)
    (a_lift_ply : PySem.W.findIn K (.ref cM) "lift_ply" = some (some (.ref f_lift_ply)))
    (i_lift_ply : PySem.W.isFn K (.ref f_lift_ply) = true)
    (l_lift_ply : K.lookup f_lift_ply = some ⟨oc_lift_ply, od_lift_ply, .func (PySem.W.fnOf "lift_ply" "Mould.lift_ply" (defArgs s_lift_ply) (defBody s_lift_ply) (defScope s_lift_ply) .none kV_lift_ply dc_lift_ply pm_lift_ply an_lift_ply cd_lift_ply ct_lift_ply), sl_lift_ply⟩)
    (c_lift_ply : PySem.W.codeIn K cd_lift_ply "Mould.lift_ply" = true)
    (k_lift_ply : PySem.W.keepIn K (.ref f_lift_ply) = true)
    (a_swap_plies : PySem.W.findIn K (.ref cM) "swap_plies" = some (some (.ref f_swap_plies)))
    (i_swap_plies : PySem.W.isFn K (.ref f_swap_plies) = true)
    (l_swap_plies : K.lookup f_swap_plies = some ⟨oc_swap_plies, od_swap_plies, .func (PySem.W.fnOf "swap_plies" "Mould.swap_plies" (defArgs s_swap_plies) (defBody s_swap_plies) (defScope s_swap_plies) .none kV_swap_plies dc_swap_plies pm_swap_plies an_swap_plies cd_swap_plies ct_swap_plies), sl_swap_plies⟩)
    (c_swap_plies : PySem.W.codeIn K cd_swap_plies "Mould.swap_plies" = true)
    (k_swap_plies : PySem.W.keepIn K (.ref f_swap_plies) = true)
    (a_start : PySem.W.nsIn K mainGlobals "start" = some (some (.ref f_start)))
    (l_start : K.lookup f_start = some ⟨oc_start, od_start, .func (PySem.W.fnOf "start" "start" (defArgs s_start) (defBody s_start) (defScope s_start) .none kV_start dc_start pm_start an_start cd_start ct_start), sl_start⟩)
    (c_start : PySem.W.codeIn K cd_start "start" = true)
    (k_start : PySem.W.keepIn K (.ref f_start) = true)
    (a_set_need : PySem.W.nsIn K mainGlobals "set_need" = some (some (.ref f_set_need)))
    (l_set_need : K.lookup f_set_need = some ⟨oc_set_need, od_set_need, .func (PySem.W.fnOf "set_need" "set_need" (defArgs s_set_need) (defBody s_set_need) (defScope s_set_need) .none kV_set_need dc_set_need pm_set_need an_set_need cd_set_need ct_set_need), sl_set_need⟩)
    (c_set_need : PySem.W.codeIn K cd_set_need "set_need" = true)
    (k_set_need : PySem.W.keepIn K (.ref f_set_need) = true)
    (a_roll : PySem.W.nsIn K mainGlobals "roll" = some (some (.ref f_roll)))
    (l_roll : K.lookup f_roll = some ⟨oc_roll, od_roll, .func (PySem.W.fnOf "roll" "roll" (defArgs s_roll) (defBody s_roll) (defScope s_roll) .none kV_roll dc_roll pm_roll an_roll cd_roll ct_roll), sl_roll⟩)
    (c_roll : PySem.W.codeIn K cd_roll "roll" = true)
    (k_roll : PySem.W.keepIn K (.ref f_roll) = true)
    (a_lay : PySem.W.nsIn K mainGlobals "lay" = some (some (.ref f_lay)))
    (l_lay : K.lookup f_lay = some ⟨oc_lay, od_lay, .func (PySem.W.fnOf "lay" "lay" (defArgs s_lay) (defBody s_lay) (defScope s_lay) .none kV_lay dc_lay pm_lay an_lay cd_lay ct_lay), sl_lay⟩)
    (c_lay : PySem.W.codeIn K cd_lay "lay" = true)
    (k_lay : PySem.W.keepIn K (.ref f_lay) = true)
    (a_lift : PySem.W.nsIn K mainGlobals "lift" = some (some (.ref f_lift)))
    (l_lift : K.lookup f_lift = some ⟨oc_lift, od_lift, .func (PySem.W.fnOf "lift" "lift" (defArgs s_lift) (defBody s_lift) (defScope s_lift) .none kV_lift dc_lift pm_lift an_lift cd_lift ct_lift), sl_lift⟩)
    (c_lift : PySem.W.codeIn K cd_lift "lift" = true)
    (k_lift : PySem.W.keepIn K (.ref f_lift) = true)
    (a_missing : PySem.W.nsIn K mainGlobals "missing" = some (some (.ref f_missing)))
    (l_missing : K.lookup f_missing = some ⟨oc_missing, od_missing, .func (PySem.W.fnOf "missing" "missing" (defArgs s_missing) (defBody s_missing) (defScope s_missing) .none kV_missing dc_missing pm_missing an_missing cd_missing ct_missing), sl_missing⟩)
    (c_missing : PySem.W.codeIn K cd_missing "missing" = true)
    (k_missing : PySem.W.keepIn K (.ref f_missing) = true)
    (a_lacks : PySem.W.nsIn K mainGlobals "lacks" = some (some (.ref f_lacks)))
    (l_lacks : K.lookup f_lacks = some ⟨oc_lacks, od_lacks, .func (PySem.W.fnOf "lacks" "lacks" (defArgs s_lacks) (defBody s_lacks) (defScope s_lacks) .none kV_lacks dc_lacks pm_lacks an_lacks cd_lacks ct_lacks), sl_lacks⟩)
    (c_lacks : PySem.W.codeIn K cd_lacks "lacks" = true)
    (k_lacks : PySem.W.keepIn K (.ref f_lacks) = true)
    (a_fewest : PySem.W.nsIn K mainGlobals "fewest" = some (some (.ref f_fewest)))
    (l_fewest : K.lookup f_fewest = some ⟨oc_fewest, od_fewest, .func (PySem.W.fnOf "fewest" "fewest" (defArgs s_fewest) (defBody s_fewest) (defScope s_fewest) .none kV_fewest dc_fewest pm_fewest an_fewest cd_fewest ct_fewest), sl_fewest⟩)
    (c_fewest : PySem.W.codeIn K cd_fewest "fewest" = true)
    (k_fewest : PySem.W.keepIn K (.ref f_fewest) = true)
    (a_plan : PySem.W.nsIn K mainGlobals "plan" = some (some (.ref f_plan)))
    (l_plan : K.lookup f_plan = some ⟨oc_plan, od_plan, .func (PySem.W.fnOf "plan" "plan" (defArgs s_plan) (defBody s_plan) (defScope s_plan) .none kV_plan dc_plan pm_plan an_plan cd_plan ct_plan), sl_plan⟩)
    (c_plan : PySem.W.codeIn K cd_plan "plan" = true)
    (k_plan : PySem.W.keepIn K (.ref f_plan) = true)
    (a_goes : PySem.W.nsIn K mainGlobals "goes" = some (some (.ref f_goes)))
    (l_goes : K.lookup f_goes = some ⟨oc_goes, od_goes, .func (PySem.W.fnOf "goes" "goes" (defArgs s_goes) (defBody s_goes) (defScope s_goes) .none kV_goes dc_goes pm_goes an_goes cd_goes ct_goes), sl_goes⟩)
    (c_goes : PySem.W.codeIn K cd_goes "goes" = true)
    (k_goes : PySem.W.keepIn K (.ref f_goes) = true)
    (a_fabric : PySem.W.nsIn K mainGlobals "fabric" = some (some (.ref f_fabric)))
    (l_fabric : K.lookup f_fabric = some ⟨oc_fabric, od_fabric, .func (PySem.W.fnOf "fabric" "fabric" (defArgs s_fabric) (defBody s_fabric) (defScope s_fabric) .none kV_fabric dc_fabric pm_fabric an_fabric cd_fabric ct_fabric), sl_fabric⟩)
    (c_fabric : PySem.W.codeIn K cd_fabric "fabric" = true)
    (k_fabric : PySem.W.keepIn K (.ref f_fabric) = true)
    (a_follow : PySem.W.nsIn K mainGlobals "follow" = some (some (.ref f_follow)))
    (l_follow : K.lookup f_follow = some ⟨oc_follow, od_follow, .func (PySem.W.fnOf "follow" "follow" (defArgs s_follow) (defBody s_follow) (defScope s_follow) .none kV_follow dc_follow pm_follow an_follow cd_follow ct_follow), sl_follow⟩)
    (c_follow : PySem.W.codeIn K cd_follow "follow" = true)
    (k_follow : PySem.W.keepIn K (.ref f_follow) = true)
    (a_ends : PySem.W.nsIn K mainGlobals "ends" = some (some (.ref f_ends)))
    (l_ends : K.lookup f_ends = some ⟨oc_ends, od_ends, .func (PySem.W.fnOf "ends" "ends" (defArgs s_ends) (defBody s_ends) (defScope s_ends) .none kV_ends dc_ends pm_ends an_ends cd_ends ct_ends), sl_ends⟩)
    (c_ends : PySem.W.codeIn K cd_ends "ends" = true)
    (k_ends : PySem.W.keepIn K (.ref f_ends) = true)
    (a_worst : PySem.W.nsIn K mainGlobals "worst" = some (some (.ref f_worst)))
    (l_worst : K.lookup f_worst = some ⟨oc_worst, od_worst, .func (PySem.W.fnOf "worst" "worst" (defArgs s_worst) (defBody s_worst) (defScope s_worst) .none kV_worst dc_worst pm_worst an_worst cd_worst ct_worst), sl_worst⟩)
    (c_worst : PySem.W.codeIn K cd_worst "worst" = true)
    (k_worst : PySem.W.keepIn K (.ref f_worst) = true)
    (a_stack : PySem.W.nsIn K mainGlobals "stack" = some (some (.ref f_stack)))
    (l_stack : K.lookup f_stack = some ⟨oc_stack, od_stack, .func (PySem.W.fnOf "stack" "stack" (defArgs s_stack) (defBody s_stack) (defScope s_stack) .none kV_stack dc_stack pm_stack an_stack cd_stack ct_stack), sl_stack⟩)
    (c_stack : PySem.W.codeIn K cd_stack "stack" = true)
    (k_stack : PySem.W.keepIn K (.ref f_stack) = true)
    (a_kinds : PySem.W.nsIn K mainGlobals "kinds" = some (some (.ref f_kinds)))
    (l_kinds : K.lookup f_kinds = some ⟨oc_kinds, od_kinds, .func (PySem.W.fnOf "kinds" "kinds" (defArgs s_kinds) (defBody s_kinds) (defScope s_kinds) .none kV_kinds dc_kinds pm_kinds an_kinds cd_kinds ct_kinds), sl_kinds⟩)
    (c_kinds : PySem.W.codeIn K cd_kinds "kinds" = true)
    (k_kinds : PySem.W.keepIn K (.ref f_kinds) = true)
    (a_alike : PySem.W.nsIn K mainGlobals "alike" = some (some (.ref f_alike)))
    (l_alike : K.lookup f_alike = some ⟨oc_alike, od_alike, .func (PySem.W.fnOf "alike" "alike" (defArgs s_alike) (defBody s_alike) (defScope s_alike) .none kV_alike dc_alike pm_alike an_alike cd_alike ct_alike), sl_alike⟩)
    (c_alike : PySem.W.codeIn K cd_alike "alike" = true)
    (k_alike : PySem.W.keepIn K (.ref f_alike) = true)
    (a_swap : PySem.W.nsIn K mainGlobals "swap" = some (some (.ref f_swap)))
    (l_swap : K.lookup f_swap = some ⟨oc_swap, od_swap, .func (PySem.W.fnOf "swap" "swap" (defArgs s_swap) (defBody s_swap) (defScope s_swap) .none kV_swap dc_swap pm_swap an_swap cd_swap ct_swap), sl_swap⟩)
    (c_swap : PySem.W.codeIn K cd_swap "swap" = true)
    (k_swap : PySem.W.keepIn K (.ref f_swap) = true)
    (a_stock : PySem.W.nsIn K mainGlobals "stock" = some (some (.ref f_stock)))
    (l_stock : K.lookup f_stock = some ⟨oc_stock, od_stock, .func (PySem.W.fnOf "stock" "stock" (defArgs s_stock) (defBody s_stock) (defScope s_stock) .none kV_stock dc_stock pm_stock an_stock cd_stock ct_stock), sl_stock⟩)
    (c_stock : PySem.W.codeIn K cd_stock "stock" = true)
    (k_stock : PySem.W.keepIn K (.ref f_stock) = true)
    (a_metres : PySem.W.nsIn K mainGlobals "metres" = some (some (.ref f_metres)))
    (l_metres : K.lookup f_metres = some ⟨oc_metres, od_metres, .func (PySem.W.fnOf "metres" "metres" (defArgs s_metres) (defBody s_metres) (defScope s_metres) .none kV_metres dc_metres pm_metres an_metres cd_metres ct_metres), sl_metres⟩)
    (c_metres : PySem.W.codeIn K cd_metres "metres" = true)
    (k_metres : PySem.W.keepIn K (.ref f_metres) = true)
    (a_state : PySem.W.nsIn K mainGlobals "state" = some (some (.ref f_state)))
    (l_state : K.lookup f_state = some ⟨oc_state, od_state, .func (PySem.W.fnOf "state" "state" (defArgs s_state) (defBody s_state) (defScope s_state) .none kV_state dc_state pm_state an_state cd_state ct_state), sl_state⟩)
    (c_state : PySem.W.codeIn K cd_state "state" = true)
    (k_state : PySem.W.keepIn K (.ref f_state) = true)
    (a_answer_call : PySem.W.nsIn K mainGlobals "answer_call" = some (some (.ref f_answer_call)))
    (l_answer_call : K.lookup f_answer_call = some ⟨oc_answer_call, od_answer_call, .func (PySem.W.fnOf "answer_call" "answer_call" (defArgs s_answer_call) (defBody s_answer_call) (defScope s_answer_call) .none kV_answer_call dc_answer_call pm_answer_call an_answer_call cd_answer_call ct_answer_call), sl_answer_call⟩)
    (c_answer_call : PySem.W.codeIn K cd_answer_call "answer_call" = true)
    (k_answer_call : PySem.W.keepIn K (.ref f_answer_call) = true)
    (a_end_of_call : PySem.W.nsIn K mainGlobals "end_of_call" = some (some (.ref f_end_of_call)))
    (l_end_of_call : K.lookup f_end_of_call = some ⟨oc_end_of_call, od_end_of_call, .func (PySem.W.fnOf "end_of_call" "end_of_call" (defArgs s_end_of_call) (defBody s_end_of_call) (defScope s_end_of_call) .none kV_end_of_call dc_end_of_call pm_end_of_call an_end_of_call cd_end_of_call ct_end_of_call), sl_end_of_call⟩)
    (c_end_of_call : PySem.W.codeIn K cd_end_of_call "end_of_call" = true)
    (k_end_of_call : PySem.W.keepIn K (.ref f_end_of_call) = true)
    (a_answers : PySem.W.nsIn K mainGlobals "answers" = some (some (.ref f_answers)))
    (l_answers : K.lookup f_answers = some ⟨oc_answers, od_answers, .func (PySem.W.fnOf "answers" "answers" (defArgs s_answers) (defBody s_answers) (defScope s_answers) .none kV_answers dc_answers pm_answers an_answers cd_answers ct_answers), sl_answers⟩)
    (c_answers : PySem.W.codeIn K cd_answers "answers" = true)
    (k_answers : PySem.W.keepIn K (.ref f_answers) = true)
    (pgM : PySem.W.plainGet K cM Str.empty = true)
    (hdM : PySem.W.hasDictIn K cM = true)
    (poM : PySem.W.plainOver K cM = true)
    (saM : PySem.W.findIn K (.ref cM) "__setattr__" = some (some (.builtin "object.__setattr__")))
    (mkM : PySem.W.makesIn K cM = true)
    (kcM : PySem.W.keepIn K (.ref cM) = true)
    (pgP : PySem.W.plainGet K cP Str.empty = true)
    (hdP : PySem.W.hasDictIn K cP = true)
    (poP : PySem.W.plainOver K cP = true)
    (saP : PySem.W.findIn K (.ref cP) "__setattr__" = some (some (.builtin "object.__setattr__")))
    (mkP : PySem.W.makesIn K cP = true)
    (kcP : PySem.W.keepIn K (.ref cP) = true)
    (n_long : PySem.W.findIn K (.ref cM) "long" = some none)
    (n_most_ends : PySem.W.findIn K (.ref cM) "most_ends" = some none)
    (n_need : PySem.W.findIn K (.ref cM) "need" = some none)
    (n_plies : PySem.W.findIn K (.ref cM) "plies" = some none)
    (n_stock : PySem.W.findIn K (.ref cM) "stock" = some none)
    (n_scrap : PySem.W.findIn K (.ref cM) "scrap" = some none)
    (n_first : PySem.W.findIn K (.ref cP) "first" = some none)
    (n_behind : PySem.W.findIn K (.ref cP) "behind" = some none)
    (n_kind : PySem.W.findIn K (.ref cP) "kind" = some none)
    (z_len : PySem.W.nsIn K mainGlobals "len" = some none)
    (z_max : PySem.W.nsIn K mainGlobals "max" = some none)
    (z_min : PySem.W.nsIn K mainGlobals "min" = some none)
    (z_sum : PySem.W.nsIn K mainGlobals "sum" = some none)
    (z_sorted : PySem.W.nsIn K mainGlobals "sorted" = some none)
    (z_list : PySem.W.nsIn K mainGlobals "list" = some none)
    (z_range : PySem.W.nsIn K mainGlobals "range" = some none)
    (z_enumerate : PySem.W.nsIn K mainGlobals "enumerate" = some none)
    (v_KINDS : PySem.W.nsIn K mainGlobals "KINDS" = some (some (.int (4) tk_KINDS)))
    (v_NO_SUCH_PLY : PySem.W.nsIn K mainGlobals "NO_SUCH_PLY" = some (some (.int (-2) tk_NO_SUCH_PLY)))
    (v_NOT_STARTED : PySem.W.nsIn K mainGlobals "NOT_STARTED" = some (some (.int (-11) tk_NOT_STARTED)))
    (v_TOO_LITTLE_FABRIC : PySem.W.nsIn K mainGlobals "TOO_LITTLE_FABRIC" = some (some (.int (-12) tk_TOO_LITTLE_FABRIC)))
    (v_TOO_MANY_ENDS : PySem.W.nsIn K mainGlobals "TOO_MANY_ENDS" = some (some (.int (-13) tk_TOO_MANY_ENDS)))
    (v_TOO_MANY_LAYERS : PySem.W.nsIn K mainGlobals "TOO_MANY_LAYERS" = some (some (.int (-16) tk_TOO_MANY_LAYERS)))
    (v_WRONG_NUMBER : PySem.W.nsIn K mainGlobals "WRONG_NUMBER" = some (some (.int (-22) tk_WRONG_NUMBER)))
    (v_TOO_MANY_PLIES : PySem.W.nsIn K mainGlobals "TOO_MANY_PLIES" = some (some (.int (-28) tk_TOO_MANY_PLIES)))
    (v_NOTHING_MISSING : PySem.W.nsIn K mainGlobals "NOTHING_MISSING" = some (some (.int (-62) tk_NOTHING_MISSING)))
    (v_START : PySem.W.nsIn K mainGlobals "START" = some (some (.int (0) tk_START)))
    (v_LONGEST : PySem.W.nsIn K mainGlobals "LONGEST" = some (some (.int (100) tk_LONGEST)))
    (v_MOST_ENDS : PySem.W.nsIn K mainGlobals "MOST_ENDS" = some (some (.int (20) tk_MOST_ENDS)))
    (v_MOST_STATIONS : PySem.W.nsIn K mainGlobals "MOST_STATIONS" = some (some (.int (12) tk_MOST_STATIONS)))
    (v_MOST_NEEDED : PySem.W.nsIn K mainGlobals "MOST_NEEDED" = some (some (.int (12) tk_MOST_NEEDED)))
    (v_MOST_STOCK : PySem.W.nsIn K mainGlobals "MOST_STOCK" = some (some (.int (100000) tk_MOST_STOCK)))
    (v_MOST_PLIES : PySem.W.nsIn K mainGlobals "MOST_PLIES" = some (some (.int (40) tk_MOST_PLIES)))
    (gPN : PySem.W.nsIn K mainGlobals "PLAIN_NUMBERS" = some (some (.ref pn)))
    (lPN : K.lookup pn = some ⟨.type "tuple", odP, .seq itsP nP, slP⟩)
    (gCA : PySem.W.nsIn K mainGlobals "CALLS" = some (some (.ref dC)))
    (lCA : K.lookup dC = some ⟨.type "dict", none, .dict esC epC, #[]⟩)
    (zPN : itsP.size ≤ sizeLine)
    (vPN : Vals (([2, 2, 2, 3, 1, 1, 0, 0, 0, 0, 0, 1, 1, 0, 1, 1, 1, 2, 1, 0, 0] : List Int).map V.int) itsP.toList)
    (eCA : intEnts esC.toList [(0, f_start), (1, f_set_need), (2, f_roll), (3, f_lay), (4, f_lift), (5, f_missing), (6, f_lacks), (7, f_fewest), (8, f_plan), (9, f_goes), (10, f_fabric), (11, f_follow), (12, f_ends), (13, f_worst), (14, f_stack), (15, f_kinds), (16, f_alike), (17, f_swap), (18, f_stock), (19, f_metres), (20, f_state)] = true) :
    ∃ fd : FuncData, (∀ (s : Shared) (us : List Value), us.length = (["calls"] : List Str).length → BindsTo s fd ⟨us, []⟩ ((["calls"] : List Str).zip us)) ∧ ∀ base : Heap, K.In base → base.Ns mainGlobals mg → FnOk P w K mg base CX0 8 fa fd ["calls"] (sp_answers K) := by
  have e := hfa.symm.trans (PySem.W.mg_of X G a_answers)
  cases e
  have F_count_ends := fun_mk (st := s_count_ends) l_count_ends c_count_ends k_count_ends
  have F_runs_lacking := fun_mk (st := s_runs_lacking) l_runs_lacking c_runs_lacking k_runs_lacking
  have F_plan_spans := fun_mk (st := s_plan_spans) l_plan_spans c_plan_spans k_plan_spans
  have F_fewest_spans := fun_mk (st := s_fewest_spans) l_fewest_spans c_fewest_spans k_fewest_spans
  have F_longest_run := fun_mk (st := s_longest_run) l_longest_run c_longest_run k_longest_run
  have F_init_Ply := fun_mk (st := s_init_Ply) l_init_Ply c_init_Ply k_init_Ply
  have F_init_Mould := fun_mk (st := s_init_Mould) l_init_Mould c_init_Mould k_init_Mould
  have F_begin := fun_mk (st := s_begin) l_begin c_begin k_begin
  have F_station_count := fun_mk (st := s_station_count) l_station_count c_station_count k_station_count
  have F_is_begun := fun_mk (st := s_is_begun) l_is_begun c_is_begun k_is_begun
  have F_has_station := fun_mk (st := s_has_station) l_has_station c_has_station k_has_station
  have F_stack_at := fun_mk (st := s_stack_at) l_stack_at c_stack_at k_stack_at
  have F_kinds_at := fun_mk (st := s_kinds_at) l_kinds_at c_kinds_at k_kinds_at
  have F_alike_at := fun_mk (st := s_alike_at) l_alike_at c_alike_at k_alike_at
  have F_layers_at := fun_mk (st := s_layers_at) l_layers_at c_layers_at k_layers_at
  have F_missing_at := fun_mk (st := s_missing_at) l_missing_at c_missing_at k_missing_at
  have F_lacking := fun_mk (st := s_lacking) l_lacking c_lacking k_lacking
  have F_planned := fun_mk (st := s_planned) l_planned c_planned k_planned
  have F_planned_fabric := fun_mk (st := s_planned_fabric) l_planned_fabric c_planned_fabric k_planned_fabric
  have F_ends_with := fun_mk (st := s_ends_with) l_ends_with c_ends_with k_ends_with
  have F_has_ends_for := fun_mk (st := s_has_ends_for) l_has_ends_for c_has_ends_for k_has_ends_for
  have F_fabric_of := fun_mk (st := s_fabric_of) l_fabric_of c_fabric_of k_fabric_of
  have F_fabric_in_plies := fun_mk (st := s_fabric_in_plies) l_fabric_in_plies c_fabric_in_plies k_fabric_in_plies
  have F_least_free_number := fun_mk (st := s_least_free_number) l_least_free_number c_least_free_number k_least_free_number
  have F_lay_ply := fun_mk (st := s_lay_ply) l_lay_ply c_lay_ply k_lay_ply
  have F_lift_ply := fun_mk (st := s_lift_ply) l_lift_ply c_lift_ply k_lift_ply
  have F_swap_plies := fun_mk (st := s_swap_plies) l_swap_plies c_swap_plies k_swap_plies
  have F_start := fun_mk (st := s_start) l_start c_start k_start
  have F_set_need := fun_mk (st := s_set_need) l_set_need c_set_need k_set_need
  have F_roll := fun_mk (st := s_roll) l_roll c_roll k_roll
  have F_lay := fun_mk (st := s_lay) l_lay c_lay k_lay
  have F_lift := fun_mk (st := s_lift) l_lift c_lift k_lift
  have F_missing := fun_mk (st := s_missing) l_missing c_missing k_missing
  have F_lacks := fun_mk (st := s_lacks) l_lacks c_lacks k_lacks
  have F_fewest := fun_mk (st := s_fewest) l_fewest c_fewest k_fewest
  have F_plan := fun_mk (st := s_plan) l_plan c_plan k_plan
  have F_goes := fun_mk (st := s_goes) l_goes c_goes k_goes
  have F_fabric := fun_mk (st := s_fabric) l_fabric c_fabric k_fabric
  have F_follow := fun_mk (st := s_follow) l_follow c_follow k_follow
  have F_ends := fun_mk (st := s_ends) l_ends c_ends k_ends
  have F_worst := fun_mk (st := s_worst) l_worst c_worst k_worst
  have F_stack := fun_mk (st := s_stack) l_stack c_stack k_stack
  have F_kinds := fun_mk (st := s_kinds) l_kinds c_kinds k_kinds
  have F_alike := fun_mk (st := s_alike) l_alike c_alike k_alike
  have F_swap := fun_mk (st := s_swap) l_swap c_swap k_swap
  have F_stock := fun_mk (st := s_stock) l_stock c_stock k_stock
  have F_metres := fun_mk (st := s_metres) l_metres c_metres k_metres
  have F_state := fun_mk (st := s_state) l_state c_state k_state
  have F_answer_call := fun_mk (st := s_answer_call) l_answer_call c_answer_call k_answer_call
  have F_end_of_call := fun_mk (st := s_end_of_call) l_end_of_call c_end_of_call k_end_of_call
  have F_answers := fun_mk (st := s_answers) l_answers c_answers k_answers
  have b_count_ends := F_count_ends.binds (ps := ["spans", "stations"]) fun _ _ _ _ _ _ us hl => match us, hl with | [_, _], _ => rfl
  have b_runs_lacking := F_runs_lacking.binds (ps := ["lacking", "height"]) fun _ _ _ _ _ _ us hl => match us, hl with | [_, _], _ => rfl
  have b_plan_spans := F_plan_spans.binds (ps := ["lacking"]) fun _ _ _ _ _ _ us hl => match us, hl with | [_], _ => rfl
  have b_fewest_spans := F_fewest_spans.binds (ps := ["lacking"]) fun _ _ _ _ _ _ us hl => match us, hl with | [_], _ => rfl
  have b_longest_run := F_longest_run.binds (ps := ["row"]) fun _ _ _ _ _ _ us hl => match us, hl with | [_], _ => rfl
  have b_init_Ply := F_init_Ply.binds (ps := ["self", "first", "behind", "kind"]) fun _ _ _ _ _ _ us hl => match us, hl with | [_, _, _, _], _ => rfl
  have b_init_Mould := F_init_Mould.binds (ps := ["self"]) fun _ _ _ _ _ _ us hl => match us, hl with | [_], _ => rfl
  have b_begin := F_begin.binds (ps := ["self", "long", "most_ends", "need"]) fun _ _ _ _ _ _ us hl => match us, hl with | [_, _, _, _], _ => rfl
  have b_station_count := F_station_count.binds (ps := ["self"]) fun _ _ _ _ _ _ us hl => match us, hl with | [_], _ => rfl
  have b_is_begun := F_is_begun.binds (ps := ["self"]) fun _ _ _ _ _ _ us hl => match us, hl with | [_], _ => rfl
  have b_has_station := F_has_station.binds (ps := ["self", "station"]) fun _ _ _ _ _ _ us hl => match us, hl with | [_, _], _ => rfl
  have b_stack_at := F_stack_at.binds (ps := ["self", "station"]) fun _ _ _ _ _ _ us hl => match us, hl with | [_, _], _ => rfl
  have b_kinds_at := F_kinds_at.binds (ps := ["self", "station"]) fun _ _ _ _ _ _ us hl => match us, hl with | [_, _], _ => rfl
  have b_alike_at := F_alike_at.binds (ps := ["self", "station"]) fun _ _ _ _ _ _ us hl => match us, hl with | [_, _], _ => rfl
  have b_layers_at := F_layers_at.binds (ps := ["self", "station"]) fun _ _ _ _ _ _ us hl => match us, hl with | [_, _], _ => rfl
  have b_missing_at := F_missing_at.binds (ps := ["self", "station"]) fun _ _ _ _ _ _ us hl => match us, hl with | [_, _], _ => rfl
  have b_lacking := F_lacking.binds (ps := ["self"]) fun _ _ _ _ _ _ us hl => match us, hl with | [_], _ => rfl
  have b_planned := F_planned.binds (ps := ["self"]) fun _ _ _ _ _ _ us hl => match us, hl with | [_], _ => rfl
  have b_planned_fabric := F_planned_fabric.binds (ps := ["self"]) fun _ _ _ _ _ _ us hl => match us, hl with | [_], _ => rfl
  have b_ends_with := F_ends_with.binds (ps := ["self", "more_spans"]) fun _ _ _ _ _ _ us hl => match us, hl with | [_, _], _ => rfl
  have b_has_ends_for := F_has_ends_for.binds (ps := ["self", "more_spans"]) fun _ _ _ _ _ _ us hl => match us, hl with | [_, _], _ => rfl
  have b_fabric_of := F_fabric_of.binds (ps := ["self", "ply"]) fun _ _ _ _ _ _ us hl => match us, hl with | [_, _], _ => rfl
  have b_fabric_in_plies := F_fabric_in_plies.binds (ps := ["self"]) fun _ _ _ _ _ _ us hl => match us, hl with | [_], _ => rfl
  have b_least_free_number := F_least_free_number.binds (ps := ["self"]) fun _ _ _ _ _ _ us hl => match us, hl with | [_], _ => rfl
  have b_lay_ply := F_lay_ply.binds (ps := ["self", "ply"]) fun _ _ _ _ _ _ us hl => match us, hl with | [_, _], _ => rfl
  have b_lift_ply := F_lift_ply.binds (ps := ["self", "number"]) fun _ _ _ _ _ _ us hl => match us, hl with | [_, _], _ => rfl
  have b_swap_plies := F_swap_plies.binds (ps := ["self", "one", "other"]) fun _ _ _ _ _ _ us hl => match us, hl with | [_, _, _], _ => rfl
  have b_start := F_start.binds (ps := ["mould", "numbers"]) fun _ _ _ _ _ _ us hl => match us, hl with | [_, _], _ => rfl
  have b_set_need := F_set_need.binds (ps := ["mould", "numbers"]) fun _ _ _ _ _ _ us hl => match us, hl with | [_, _], _ => rfl
  have b_roll := F_roll.binds (ps := ["mould", "numbers"]) fun _ _ _ _ _ _ us hl => match us, hl with | [_, _], _ => rfl
  have b_lay := F_lay.binds (ps := ["mould", "numbers"]) fun _ _ _ _ _ _ us hl => match us, hl with | [_, _], _ => rfl
  have b_lift := F_lift.binds (ps := ["mould", "numbers"]) fun _ _ _ _ _ _ us hl => match us, hl with | [_, _], _ => rfl
  have b_missing := F_missing.binds (ps := ["mould", "numbers"]) fun _ _ _ _ _ _ us hl => match us, hl with | [_, _], _ => rfl
  have b_lacks := F_lacks.binds (ps := ["mould", "numbers"]) fun _ _ _ _ _ _ us hl => match us, hl with | [_, _], _ => rfl
  have b_fewest := F_fewest.binds (ps := ["mould", "numbers"]) fun _ _ _ _ _ _ us hl => match us, hl with | [_, _], _ => rfl
  have b_plan := F_plan.binds (ps := ["mould", "numbers"]) fun _ _ _ _ _ _ us hl => match us, hl with | [_, _], _ => rfl
  have b_goes := F_goes.binds (ps := ["mould", "numbers"]) fun _ _ _ _ _ _ us hl => match us, hl with | [_, _], _ => rfl
  have b_fabric := F_fabric.binds (ps := ["mould", "numbers"]) fun _ _ _ _ _ _ us hl => match us, hl with | [_, _], _ => rfl
  have b_follow := F_follow.binds (ps := ["mould", "numbers"]) fun _ _ _ _ _ _ us hl => match us, hl with | [_, _], _ => rfl
  have b_ends := F_ends.binds (ps := ["mould", "numbers"]) fun _ _ _ _ _ _ us hl => match us, hl with | [_, _], _ => rfl
  have b_worst := F_worst.binds (ps := ["mould", "numbers"]) fun _ _ _ _ _ _ us hl => match us, hl with | [_, _], _ => rfl
  have b_stack := F_stack.binds (ps := ["mould", "numbers"]) fun _ _ _ _ _ _ us hl => match us, hl with | [_, _], _ => rfl
  have b_kinds := F_kinds.binds (ps := ["mould", "numbers"]) fun _ _ _ _ _ _ us hl => match us, hl with | [_, _], _ => rfl
  have b_alike := F_alike.binds (ps := ["mould", "numbers"]) fun _ _ _ _ _ _ us hl => match us, hl with | [_, _], _ => rfl
  have b_swap := F_swap.binds (ps := ["mould", "numbers"]) fun _ _ _ _ _ _ us hl => match us, hl with | [_, _], _ => rfl
  have b_stock := F_stock.binds (ps := ["mould", "numbers"]) fun _ _ _ _ _ _ us hl => match us, hl with | [_, _], _ => rfl
  have b_metres := F_metres.binds (ps := ["mould", "numbers"]) fun _ _ _ _ _ _ us hl => match us, hl with | [_, _], _ => rfl
  have b_state := F_state.binds (ps := ["mould", "numbers"]) fun _ _ _ _ _ _ us hl => match us, hl with | [_, _], _ => rfl
  have b_answer_call := F_answer_call.binds (ps := ["mould", "call", "numbers"]) fun _ _ _ _ _ _ us hl => match us, hl with | [_, _, _], _ => rfl
  have b_end_of_call := F_end_of_call.binds (ps := ["calls", "place"]) fun _ _ _ _ _ _ us hl => match us, hl with | [_, _], _ => rfl
  have b_answers := F_answers.binds (ps := ["calls"]) fun _ _ _ _ _ _ us hl => match us, hl with | [_], _ => rfl
  let t : Adr := { cM := cM, cP := cP, pn := pn, dC := dC, f_count_ends := f_count_ends, d_count_ends := (PySem.W.fnOf "count_ends" "count_ends" (defArgs s_count_ends) (defBody s_count_ends) (defScope s_count_ends) .none kV_count_ends dc_count_ends pm_count_ends an_count_ends cd_count_ends ct_count_ends), f_runs_lacking := f_runs_lacking, d_runs_lacking := (PySem.W.fnOf "runs_lacking" "runs_lacking" (defArgs s_runs_lacking) (defBody s_runs_lacking) (defScope s_runs_lacking) .none kV_runs_lacking dc_runs_lacking pm_runs_lacking an_runs_lacking cd_runs_lacking ct_runs_lacking), f_plan_spans := f_plan_spans, d_plan_spans := (PySem.W.fnOf "plan_spans" "plan_spans" (defArgs s_plan_spans) (defBody s_plan_spans) (defScope s_plan_spans) .none kV_plan_spans dc_plan_spans pm_plan_spans an_plan_spans cd_plan_spans ct_plan_spans), f_fewest_spans := f_fewest_spans, d_fewest_spans := (PySem.W.fnOf "fewest_spans" "fewest_spans" (defArgs s_fewest_spans) (defBody s_fewest_spans) (defScope s_fewest_spans) .none kV_fewest_spans dc_fewest_spans pm_fewest_spans an_fewest_spans cd_fewest_spans ct_fewest_spans), f_longest_run := f_longest_run, d_longest_run := (PySem.W.fnOf "longest_run" "longest_run" (defArgs s_longest_run) (defBody s_longest_run) (defScope s_longest_run) .none kV_longest_run dc_longest_run pm_longest_run an_longest_run cd_longest_run ct_longest_run), f_init_Ply := f_init_Ply, d_init_Ply := (PySem.W.fnOf "__init__" "Ply.__init__" (defArgs s_init_Ply) (defBody s_init_Ply) (defScope s_init_Ply) .none kV_init_Ply dc_init_Ply pm_init_Ply an_init_Ply cd_init_Ply ct_init_Ply), f_init_Mould := f_init_Mould, d_init_Mould := (PySem.W.fnOf "__init__" "Mould.__init__" (defArgs s_init_Mould) (defBody s_init_Mould) (defScope s_init_Mould) .none kV_init_Mould dc_init_Mould pm_init_Mould an_init_Mould cd_init_Mould ct_init_Mould), f_begin := f_begin, d_begin := (PySem.W.fnOf "begin" "Mould.begin" (defArgs s_begin) (defBody s_begin) (defScope s_begin) .none kV_begin dc_begin pm_begin an_begin cd_begin ct_begin), f_station_count := f_station_count, d_station_count := (PySem.W.fnOf "station_count" "Mould.station_count" (defArgs s_station_count) (defBody s_station_count) (defScope s_station_count) .none kV_station_count dc_station_count pm_station_count an_station_count cd_station_count ct_station_count), f_is_begun := f_is_begun, d_is_begun := (PySem.W.fnOf "is_begun" "Mould.is_begun" (defArgs s_is_begun) (defBody s_is_begun) (defScope s_is_begun) .none kV_is_begun dc_is_begun pm_is_begun an_is_begun cd_is_begun ct_is_begun), f_has_station := f_has_station, d_has_station := (PySem.W.fnOf "has_station" "Mould.has_station" (defArgs s_has_station) (defBody s_has_station) (defScope s_has_station) .none kV_has_station dc_has_station pm_has_station an_has_station cd_has_station ct_has_station), f_stack_at := f_stack_at, d_stack_at := (PySem.W.fnOf "stack_at" "Mould.stack_at" (defArgs s_stack_at) (defBody s_stack_at) (defScope s_stack_at) .none kV_stack_at dc_stack_at pm_stack_at an_stack_at cd_stack_at ct_stack_at), f_kinds_at := f_kinds_at, d_kinds_at := (PySem.W.fnOf "kinds_at" "Mould.kinds_at" (defArgs s_kinds_at) (defBody s_kinds_at) (defScope s_kinds_at) .none kV_kinds_at dc_kinds_at pm_kinds_at an_kinds_at cd_kinds_at ct_kinds_at), f_alike_at := f_alike_at, d_alike_at := (PySem.W.fnOf "alike_at" "Mould.alike_at" (defArgs s_alike_at) (defBody s_alike_at) (defScope s_alike_at) .none kV_alike_at dc_alike_at pm_alike_at an_alike_at cd_alike_at ct_alike_at), f_layers_at := f_layers_at, d_layers_at := (PySem.W.fnOf "layers_at" "Mould.layers_at" (defArgs s_layers_at) (defBody s_layers_at) (defScope s_layers_at) .none kV_layers_at dc_layers_at pm_layers_at an_layers_at cd_layers_at ct_layers_at), f_missing_at := f_missing_at, d_missing_at := (PySem.W.fnOf "missing_at" "Mould.missing_at" (defArgs s_missing_at) (defBody s_missing_at) (defScope s_missing_at) .none kV_missing_at dc_missing_at pm_missing_at an_missing_at cd_missing_at ct_missing_at), f_lacking := f_lacking, d_lacking := (PySem.W.fnOf "lacking" "Mould.lacking" (defArgs s_lacking) (defBody s_lacking) (defScope s_lacking) .none kV_lacking dc_lacking pm_lacking an_lacking cd_lacking ct_lacking), f_planned := f_planned, d_planned := (PySem.W.fnOf "planned" "Mould.planned" (defArgs s_planned) (defBody s_planned) (defScope s_planned) .none kV_planned dc_planned pm_planned an_planned cd_planned ct_planned), f_planned_fabric := f_planned_fabric, d_planned_fabric := (PySem.W.fnOf "planned_fabric" "Mould.planned_fabric" (defArgs s_planned_fabric) (defBody s_planned_fabric) (defScope s_planned_fabric) .none kV_planned_fabric dc_planned_fabric pm_planned_fabric an_planned_fabric cd_planned_fabric ct_planned_fabric), f_ends_with := f_ends_with, d_ends_with := (PySem.W.fnOf "ends_with" "Mould.ends_with" (defArgs s_ends_with) (defBody s_ends_with) (defScope s_ends_with) .none kV_ends_with dc_ends_with pm_ends_with an_ends_with cd_ends_with ct_ends_with), f_has_ends_for := f_has_ends_for, d_has_ends_for := (PySem.W.fnOf "has_ends_for" "Mould.has_ends_for" (defArgs s_has_ends_for) (defBody s_has_ends_for) (defScope s_has_ends_for) .none kV_has_ends_for dc_has_ends_for pm_has_ends_for an_has_ends_for cd_has_ends_for ct_has_ends_for), f_fabric_of := f_fabric_of, d_fabric_of := (PySem.W.fnOf "fabric_of" "Mould.fabric_of" (defArgs s_fabric_of) (defBody s_fabric_of) (defScope s_fabric_of) .none kV_fabric_of dc_fabric_of pm_fabric_of an_fabric_of cd_fabric_of ct_fabric_of), f_fabric_in_plies := f_fabric_in_plies, d_fabric_in_plies := (PySem.W.fnOf "fabric_in_plies" "Mould.fabric_in_plies" (defArgs s_fabric_in_plies) (defBody s_fabric_in_plies) (defScope s_fabric_in_plies) .none kV_fabric_in_plies dc_fabric_in_plies pm_fabric_in_plies an_fabric_in_plies cd_fabric_in_plies ct_fabric_in_plies), f_least_free_number := f_least_free_number, d_least_free_number := (PySem.W.fnOf "least_free_number" "Mould.least_free_number" (defArgs s_least_free_number) (defBody s_least_free_number) (defScope s_least_free_number) .none kV_least_free_number dc_least_free_number pm_least_free_number an_least_free_number cd_least_free_number ct_least_free_number), f_lay_ply := f_lay_ply, d_lay_ply := (PySem.W.fnOf "lay_ply" "Mould.lay_ply" (defArgs s_lay_ply) (defBody s_lay_ply) (defScope s_lay_ply) .none kV_lay_ply dc_lay_ply pm_lay_ply an_lay_ply cd_lay_ply ct_lay_ply), f_lift_ply := f_lift_ply, d_lift_ply := (PySem.W.fnOf "lift_ply" "Mould.lift_ply" (defArgs s_lift_ply) (defBody s_lift_ply) (defScope s_lift_ply) .none kV_lift_ply dc_lift_ply pm_lift_ply an_lift_ply cd_lift_ply ct_lift_ply), f_swap_plies := f_swap_plies, d_swap_plies := (PySem.W.fnOf "swap_plies" "Mould.swap_plies" (defArgs s_swap_plies) (defBody s_swap_plies) (defScope s_swap_plies) .none kV_swap_plies dc_swap_plies pm_swap_plies an_swap_plies cd_swap_plies ct_swap_plies), f_start := f_start, d_start := (PySem.W.fnOf "start" "start" (defArgs s_start) (defBody s_start) (defScope s_start) .none kV_start dc_start pm_start an_start cd_start ct_start), f_set_need := f_set_need, d_set_need := (PySem.W.fnOf "set_need" "set_need" (defArgs s_set_need) (defBody s_set_need) (defScope s_set_need) .none kV_set_need dc_set_need pm_set_need an_set_need cd_set_need ct_set_need), f_roll := f_roll, d_roll := (PySem.W.fnOf "roll" "roll" (defArgs s_roll) (defBody s_roll) (defScope s_roll) .none kV_roll dc_roll pm_roll an_roll cd_roll ct_roll), f_lay := f_lay, d_lay := (PySem.W.fnOf "lay" "lay" (defArgs s_lay) (defBody s_lay) (defScope s_lay) .none kV_lay dc_lay pm_lay an_lay cd_lay ct_lay), f_lift := f_lift, d_lift := (PySem.W.fnOf "lift" "lift" (defArgs s_lift) (defBody s_lift) (defScope s_lift) .none kV_lift dc_lift pm_lift an_lift cd_lift ct_lift), f_missing := f_missing, d_missing := (PySem.W.fnOf "missing" "missing" (defArgs s_missing) (defBody s_missing) (defScope s_missing) .none kV_missing dc_missing pm_missing an_missing cd_missing ct_missing), f_lacks := f_lacks, d_lacks := (PySem.W.fnOf "lacks" "lacks" (defArgs s_lacks) (defBody s_lacks) (defScope s_lacks) .none kV_lacks dc_lacks pm_lacks an_lacks cd_lacks ct_lacks), f_fewest := f_fewest, d_fewest := (PySem.W.fnOf "fewest" "fewest" (defArgs s_fewest) (defBody s_fewest) (defScope s_fewest) .none kV_fewest dc_fewest pm_fewest an_fewest cd_fewest ct_fewest), f_plan := f_plan, d_plan := (PySem.W.fnOf "plan" "plan" (defArgs s_plan) (defBody s_plan) (defScope s_plan) .none kV_plan dc_plan pm_plan an_plan cd_plan ct_plan), f_goes := f_goes, d_goes := (PySem.W.fnOf "goes" "goes" (defArgs s_goes) (defBody s_goes) (defScope s_goes) .none kV_goes dc_goes pm_goes an_goes cd_goes ct_goes), f_fabric := f_fabric, d_fabric := (PySem.W.fnOf "fabric" "fabric" (defArgs s_fabric) (defBody s_fabric) (defScope s_fabric) .none kV_fabric dc_fabric pm_fabric an_fabric cd_fabric ct_fabric), f_follow := f_follow, d_follow := (PySem.W.fnOf "follow" "follow" (defArgs s_follow) (defBody s_follow) (defScope s_follow) .none kV_follow dc_follow pm_follow an_follow cd_follow ct_follow), f_ends := f_ends, d_ends := (PySem.W.fnOf "ends" "ends" (defArgs s_ends) (defBody s_ends) (defScope s_ends) .none kV_ends dc_ends pm_ends an_ends cd_ends ct_ends), f_worst := f_worst, d_worst := (PySem.W.fnOf "worst" "worst" (defArgs s_worst) (defBody s_worst) (defScope s_worst) .none kV_worst dc_worst pm_worst an_worst cd_worst ct_worst), f_stack := f_stack, d_stack := (PySem.W.fnOf "stack" "stack" (defArgs s_stack) (defBody s_stack) (defScope s_stack) .none kV_stack dc_stack pm_stack an_stack cd_stack ct_stack), f_kinds := f_kinds, d_kinds := (PySem.W.fnOf "kinds" "kinds" (defArgs s_kinds) (defBody s_kinds) (defScope s_kinds) .none kV_kinds dc_kinds pm_kinds an_kinds cd_kinds ct_kinds), f_alike := f_alike, d_alike := (PySem.W.fnOf "alike" "alike" (defArgs s_alike) (defBody s_alike) (defScope s_alike) .none kV_alike dc_alike pm_alike an_alike cd_alike ct_alike), f_swap := f_swap, d_swap := (PySem.W.fnOf "swap" "swap" (defArgs s_swap) (defBody s_swap) (defScope s_swap) .none kV_swap dc_swap pm_swap an_swap cd_swap ct_swap), f_stock := f_stock, d_stock := (PySem.W.fnOf "stock" "stock" (defArgs s_stock) (defBody s_stock) (defScope s_stock) .none kV_stock dc_stock pm_stock an_stock cd_stock ct_stock), f_metres := f_metres, d_metres := (PySem.W.fnOf "metres" "metres" (defArgs s_metres) (defBody s_metres) (defScope s_metres) .none kV_metres dc_metres pm_metres an_metres cd_metres ct_metres), f_state := f_state, d_state := (PySem.W.fnOf "state" "state" (defArgs s_state) (defBody s_state) (defScope s_state) .none kV_state dc_state pm_state an_state cd_state ct_state), f_answer_call := f_answer_call, d_answer_call := (PySem.W.fnOf "answer_call" "answer_call" (defArgs s_answer_call) (defBody s_answer_call) (defScope s_answer_call) .none kV_answer_call dc_answer_call pm_answer_call an_answer_call cd_answer_call ct_answer_call), f_end_of_call := f_end_of_call, d_end_of_call := (PySem.W.fnOf "end_of_call" "end_of_call" (defArgs s_end_of_call) (defBody s_end_of_call) (defScope s_end_of_call) .none kV_end_of_call dc_end_of_call pm_end_of_call an_end_of_call cd_end_of_call ct_end_of_call), f_answers := fa, d_answers := (PySem.W.fnOf "answers" "answers" (defArgs s_answers) (defBody s_answers) (defScope s_answers) .none kV_answers dc_answers pm_answers an_answers cd_answers ct_answers) }
  have T : Txt K mg t := { clM := ⟨pgM, hdM, poM, saM⟩, clP := ⟨pgP, hdP, poP, saP⟩, n_long := n_long, n_most_ends := n_most_ends, n_need := n_need, n_plies := n_plies, n_stock := n_stock, n_scrap := n_scrap, n_first := n_first, n_behind := n_behind, n_kind := n_kind, g_Mould := PySem.W.mg_of X G gM, g_Ply := PySem.W.mg_of X G gP, mkMould := ⟨mkM, a_init_Mould, i_init_Mould, kcM⟩, mkPly := ⟨mkP, a_init_Ply, i_init_Ply, kcP⟩, g_PLAIN := PySem.W.mg_of X G gPN, plain := fun H => .inr ⟨_, itsP, nP, lPN, rfl, rfl, zPN, vPN⟩, g_CALLS := PySem.W.mg_of X G gCA, calls := ⟨_, esC, epC, lCA, ⟨rfl, rfl, rfl⟩, rfl, eCA⟩, n_len := PySem.W.mg_none_of X G z_len, n_max := PySem.W.mg_none_of X G z_max, n_min := PySem.W.mg_none_of X G z_min, n_sum := PySem.W.mg_none_of X G z_sum, n_sorted := PySem.W.mg_none_of X G z_sorted, n_list := PySem.W.mg_none_of X G z_list, n_range := PySem.W.mg_none_of X G z_range, n_enumerate := PySem.W.mg_none_of X G z_enumerate, c_KINDS := ⟨_, PySem.W.mg_of X G v_KINDS⟩, c_NO_SUCH_PLY := ⟨_, PySem.W.mg_of X G v_NO_SUCH_PLY⟩, c_NOT_STARTED := ⟨_, PySem.W.mg_of X G v_NOT_STARTED⟩, c_TOO_LITTLE_FABRIC := ⟨_, PySem.W.mg_of X G v_TOO_LITTLE_FABRIC⟩, c_TOO_MANY_ENDS := ⟨_, PySem.W.mg_of X G v_TOO_MANY_ENDS⟩, c_TOO_MANY_LAYERS := ⟨_, PySem.W.mg_of X G v_TOO_MANY_LAYERS⟩, c_WRONG_NUMBER := ⟨_, PySem.W.mg_of X G v_WRONG_NUMBER⟩, c_TOO_MANY_PLIES := ⟨_, PySem.W.mg_of X G v_TOO_MANY_PLIES⟩, c_NOTHING_MISSING := ⟨_, PySem.W.mg_of X G v_NOTHING_MISSING⟩, c_START := ⟨_, PySem.W.mg_of X G v_START⟩, c_LONGEST := ⟨_, PySem.W.mg_of X G v_LONGEST⟩, c_MOST_ENDS := ⟨_, PySem.W.mg_of X G v_MOST_ENDS⟩, c_MOST_STATIONS := ⟨_, PySem.W.mg_of X G v_MOST_STATIONS⟩, c_MOST_NEEDED := ⟨_, PySem.W.mg_of X G v_MOST_NEEDED⟩, c_MOST_STOCK := ⟨_, PySem.W.mg_of X G v_MOST_STOCK⟩, c_MOST_PLIES := ⟨_, PySem.W.mg_of X G v_MOST_PLIES⟩, F_count_ends := F_count_ends, b_count_ends := b_count_ends, g_count_ends := PySem.W.mg_of X G a_count_ends, F_runs_lacking := F_runs_lacking, b_runs_lacking := b_runs_lacking, g_runs_lacking := PySem.W.mg_of X G a_runs_lacking, F_plan_spans := F_plan_spans, b_plan_spans := b_plan_spans, g_plan_spans := PySem.W.mg_of X G a_plan_spans, F_fewest_spans := F_fewest_spans, b_fewest_spans := b_fewest_spans, g_fewest_spans := PySem.W.mg_of X G a_fewest_spans, F_longest_run := F_longest_run, b_longest_run := b_longest_run, g_longest_run := PySem.W.mg_of X G a_longest_run, F_init_Ply := F_init_Ply, b_init_Ply := b_init_Ply, F_init_Mould := F_init_Mould, b_init_Mould := b_init_Mould, F_begin := F_begin, b_begin := b_begin, m_begin := ⟨a_begin, i_begin, k_begin⟩, F_station_count := F_station_count, b_station_count := b_station_count, m_station_count := ⟨a_station_count, i_station_count, k_station_count⟩, F_is_begun := F_is_begun, b_is_begun := b_is_begun, m_is_begun := ⟨a_is_begun, i_is_begun, k_is_begun⟩, F_has_station := F_has_station, b_has_station := b_has_station, m_has_station := ⟨a_has_station, i_has_station, k_has_station⟩, F_stack_at := F_stack_at, b_stack_at := b_stack_at, m_stack_at := ⟨a_stack_at, i_stack_at, k_stack_at⟩, F_kinds_at := F_kinds_at, b_kinds_at := b_kinds_at, m_kinds_at := ⟨a_kinds_at, i_kinds_at, k_kinds_at⟩, F_alike_at := F_alike_at, b_alike_at := b_alike_at, m_alike_at := ⟨a_alike_at, i_alike_at, k_alike_at⟩, F_layers_at := F_layers_at, b_layers_at := b_layers_at, m_layers_at := ⟨a_layers_at, i_layers_at, k_layers_at⟩, F_missing_at := F_missing_at, b_missing_at := b_missing_at, m_missing_at := ⟨a_missing_at, i_missing_at, k_missing_at⟩, F_lacking := F_lacking, b_lacking := b_lacking, m_lacking := ⟨a_lacking, i_lacking, k_lacking⟩, F_planned := F_planned, b_planned := b_planned, m_planned := ⟨a_planned, i_planned, k_planned⟩, F_planned_fabric := F_planned_fabric, b_planned_fabric := b_planned_fabric, m_planned_fabric := ⟨a_planned_fabric, i_planned_fabric, k_planned_fabric⟩, F_ends_with := F_ends_with, b_ends_with := b_ends_with, m_ends_with := ⟨a_ends_with, i_ends_with, k_ends_with⟩, F_has_ends_for := F_has_ends_for, b_has_ends_for := b_has_ends_for, m_has_ends_for := ⟨a_has_ends_for, i_has_ends_for, k_has_ends_for⟩, F_fabric_of := F_fabric_of, b_fabric_of := b_fabric_of, m_fabric_of := ⟨a_fabric_of, i_fabric_of, k_fabric_of⟩, F_fabric_in_plies := F_fabric_in_plies, b_fabric_in_plies := b_fabric_in_plies, m_fabric_in_plies := ⟨a_fabric_in_plies, i_fabric_in_plies, k_fabric_in_plies⟩, F_least_free_number := F_least_free_number, b_least_free_number := b_least_free_number, m_least_free_number := ⟨a_least_free_number, i_least_free_number, k_least_free_number⟩, F_lay_ply := F_lay_ply, b_lay_ply := b_lay_ply, m_lay_ply := ⟨a_lay_ply, i_lay_ply, k_lay_ply⟩, F_lift_ply := F_lift_ply, b_lift_ply := b_lift_ply, m_lift_ply := ⟨a_lift_ply, i_lift_ply, k_lift_ply⟩, F_swap_plies := F_swap_plies, b_swap_plies := b_swap_plies, m_swap_plies := ⟨a_swap_plies, i_swap_plies, k_swap_plies⟩, F_start := F_start, b_start := b_start, g_start := PySem.W.mg_of X G a_start, F_set_need := F_set_need, b_set_need := b_set_need, g_set_need := PySem.W.mg_of X G a_set_need, F_roll := F_roll, b_roll := b_roll, g_roll := PySem.W.mg_of X G a_roll, F_lay := F_lay, b_lay := b_lay, g_lay := PySem.W.mg_of X G a_lay, F_lift := F_lift, b_lift := b_lift, g_lift := PySem.W.mg_of X G a_lift, F_missing := F_missing, b_missing := b_missing, g_missing := PySem.W.mg_of X G a_missing, F_lacks := F_lacks, b_lacks := b_lacks, g_lacks := PySem.W.mg_of X G a_lacks, F_fewest := F_fewest, b_fewest := b_fewest, g_fewest := PySem.W.mg_of X G a_fewest, F_plan := F_plan, b_plan := b_plan, g_plan := PySem.W.mg_of X G a_plan, F_goes := F_goes, b_goes := b_goes, g_goes := PySem.W.mg_of X G a_goes, F_fabric := F_fabric, b_fabric := b_fabric, g_fabric := PySem.W.mg_of X G a_fabric, F_follow := F_follow, b_follow := b_follow, g_follow := PySem.W.mg_of X G a_follow, F_ends := F_ends, b_ends := b_ends, g_ends := PySem.W.mg_of X G a_ends, F_worst := F_worst, b_worst := b_worst, g_worst := PySem.W.mg_of X G a_worst, F_stack := F_stack, b_stack := b_stack, g_stack := PySem.W.mg_of X G a_stack, F_kinds := F_kinds, b_kinds := b_kinds, g_kinds := PySem.W.mg_of X G a_kinds, F_alike := F_alike, b_alike := b_alike, g_alike := PySem.W.mg_of X G a_alike, F_swap := F_swap, b_swap := b_swap, g_swap := PySem.W.mg_of X G a_swap, F_stock := F_stock, b_stock := b_stock, g_stock := PySem.W.mg_of X G a_stock, F_metres := F_metres, b_metres := b_metres, g_metres := PySem.W.mg_of X G a_metres, F_state := F_state, b_state := b_state, g_state := PySem.W.mg_of X G a_state, F_answer_call := F_answer_call, b_answer_call := b_answer_call, g_answer_call := PySem.W.mg_of X G a_answer_call, F_end_of_call := F_end_of_call, b_end_of_call := b_end_of_call, g_end_of_call := PySem.W.mg_of X G a_end_of_call, F_answers := F_answers, b_answers := b_answers, g_answers := PySem.W.mg_of X G a_answers }
  exact ⟨(PySem.W.fnOf "answers" "answers" (defArgs s_answers) (defBody s_answers) (defScope s_answers) .none kV_answers dc_answers pm_answers an_answers cd_answers ct_answers), fun s us hu => match us, hu with | [_], _ => .of_eq rfl, fun base _ _ => ok_answers T⟩
end Bm
end
open PySem PySem.W PyProof.Rows
set_option maxRecDepth 100000 in
set_option maxHeartbeats 0 in
theorem PySem.Challenge.cw_blademould_s01_answers_holds : PySem.Challenge.rw_blademould_s01_answers.Holds := by
  refine holds_os (r := PySem.Challenge.rw_blademould_s01_answers) (q := Bm.vw) (loose := Bm.lsK) (Xt := Bm.xtK) (XP := XL Bm.vw [])
    (Yf := Bm.hkK.obs) (Ya := Bm.hkK.val) (YP := Bm.hkK.says) (N := 5274) Bm.leftK Bm.hkK.of Bm.hkK.keeps
    (fun s e => xl_of s (Bool.and_eq_true_iff.mp e).1) XL.keeps (by rfl) (by rfl) (by rfl)
    (fun s e => recFacts_of (Bool.and_eq_true_iff.mp e).2) os_shapes (by decide +kernel) (by decide +kernel)
    ⟨rfl, rfl, rfl, rfl, rfl, by decide +kernel⟩ ⟨[.list [.int 6]], by decide +kernel, by decide +kernel⟩ ?hc
  unfold Bm.hkK
  k_fillS
  refine L2.walk_specK (r := PySem.Challenge.rw_blademould_s01_answers) (k := 8) (CX := L2.CX0) (ps := ["calls"]) (sp := Bm.sp_answers) (by decide +kernel) rfl rfl ⟨rfl, by decide, by decide⟩ (fun w h Y => PySem.W.kIn_of Y) ?F ?S (fun _ _ _ _ z => z)
  case F =>
    intro w mg fa h Y KX G hmg
    refine' Bm.all_mk KX G hmg ?gM ?gP ?a_count_ends ?l_count_ends ?c_count_ends ?k_count_ends ?a_runs_lacking ?l_runs_lacking ?c_runs_lacking ?k_runs_lacking ?a_plan_spans ?l_plan_spans ?c_plan_spans ?k_plan_spans ?a_fewest_spans ?l_fewest_spans ?c_fewest_spans ?k_fewest_spans ?a_longest_run ?l_longest_run ?c_longest_run ?k_longest_run ?a_init_Ply ?i_init_Ply ?l_init_Ply ?c_init_Ply ?k_init_Ply ?a_init_Mould ?i_init_Mould ?l_init_Mould ?c_init_Mould ?k_init_Mould ?a_begin ?i_begin ?l_begin ?c_begin ?k_begin ?a_station_count ?i_station_count ?l_station_count ?c_station_count ?k_station_count ?a_is_begun ?i_is_begun ?l_is_begun ?c_is_begun ?k_is_begun ?a_has_station ?i_has_station ?l_has_station ?c_has_station ?k_has_station ?a_stack_at ?i_stack_at ?l_stack_at ?c_stack_at ?k_stack_at ?a_kinds_at ?i_kinds_at ?l_kinds_at ?c_kinds_at ?k_kinds_at ?a_alike_at ?i_alike_at ?l_alike_at ?c_alike_at ?k_alike_at ?a_layers_at ?i_layers_at ?l_layers_at ?c_layers_at ?k_layers_at ?a_missing_at ?i_missing_at ?l_missing_at ?c_missing_at ?k_missing_at ?a_lacking ?i_lacking ?l_lacking ?c_lacking ?k_lacking ?a_planned ?i_planned ?l_planned ?c_planned ?k_planned ?a_planned_fabric ?i_planned_fabric ?l_planned_fabric ?c_planned_fabric ?k_planned_fabric ?a_ends_with ?i_ends_with ?l_ends_with ?c_ends_with ?k_ends_with ?a_has_ends_for ?i_has_ends_for ?l_has_ends_for ?c_has_ends_for ?k_has_ends_for ?a_fabric_of ?i_fabric_of ?l_fabric_of ?c_fabric_of ?k_fabric_of ?a_fabric_in_plies ?i_fabric_in_plies ?l_fabric_in_plies ?c_fabric_in_plies ?k_fabric_in_plies ?a_least_free_number ?i_least_free_number ?l_least_free_number ?c_least_free_number ?k_least_free_number ?a_lay_ply ?i_lay_ply ?l_lay_ply ?c_lay_ply ?k_lay_ply ?a_lift_ply ?i_lift_ply ?l_lift_ply ?c_lift_ply ?k_lift_ply ?a_swap_plies ?i_swap_plies ?l_swap_plies ?c_swap_plies ?k_swap_plies ?a_start ?l_start ?c_start ?k_start ?a_set_need ?l_set_need ?c_set_need ?k_set_need ?a_roll ?l_roll ?c_roll ?k_roll ?a_lay ?l_lay ?c_lay ?k_lay ?a_lift ?l_lift ?c_lift ?k_lift ?a_missing ?l_missing ?c_missing ?k_missing ?a_lacks ?l_lacks ?c_lacks ?k_lacks ?a_fewest ?l_fewest ?c_fewest ?k_fewest ?a_plan ?l_plan ?c_plan ?k_plan ?a_goes ?l_goes ?c_goes ?k_goes ?a_fabric ?l_fabric ?c_fabric ?k_fabric ?a_follow ?l_follow ?c_follow ?k_follow ?a_ends ?l_ends ?c_ends ?k_ends ?a_worst ?l_worst ?c_worst ?k_worst ?a_stack ?l_stack ?c_stack ?k_stack ?a_kinds ?l_kinds ?c_kinds ?k_kinds ?a_alike ?l_alike ?c_alike ?k_alike ?a_swap ?l_swap ?c_swap ?k_swap ?a_stock ?l_stock ?c_stock ?k_stock ?a_metres ?l_metres ?c_metres ?k_metres ?a_state ?l_state ?c_state ?k_state ?a_answer_call ?l_answer_call ?c_answer_call ?k_answer_call ?a_end_of_call ?l_end_of_call ?c_end_of_call ?k_end_of_call ?a_answers ?l_answers ?c_answers ?k_answers ?pgM ?hdM ?poM ?saM ?mkM ?kcM ?pgP ?hdP ?poP ?saP ?mkP ?kcP ?n_long ?n_most_ends ?n_need ?n_plies ?n_stock ?n_scrap ?n_first ?n_behind ?n_kind ?z_len ?z_max ?z_min ?z_sum ?z_sorted ?z_list ?z_range ?z_enumerate ?v_KINDS ?v_NO_SUCH_PLY ?v_NOT_STARTED ?v_TOO_LITTLE_FABRIC ?v_TOO_MANY_ENDS ?v_TOO_MANY_LAYERS ?v_WRONG_NUMBER ?v_TOO_MANY_PLIES ?v_NOTHING_MISSING ?v_START ?v_LONGEST ?v_MOST_ENDS ?v_MOST_STATIONS ?v_MOST_NEEDED ?v_MOST_STOCK ?v_MOST_PLIES ?gPN ?lPN ?gCA ?lCA ?zPN ?vPN ?eCA
    (case gM => k_is)
    (case gP => k_is)
    (case a_count_ends => k_is)
    (case l_count_ends => k_is)
    (case c_count_ends => k_is)
    (case k_count_ends => k_is)
    (case a_runs_lacking => k_is)
    (case l_runs_lacking => k_is)
    (case c_runs_lacking => k_is)
    (case k_runs_lacking => k_is)
    (case a_plan_spans => k_is)
    (case l_plan_spans => k_is)
    (case c_plan_spans => k_is)
    (case k_plan_spans => k_is)
    (case a_fewest_spans => k_is)
    (case l_fewest_spans => k_is)
    (case c_fewest_spans => k_is)
    (case k_fewest_spans => k_is)
    (case a_longest_run => k_is)
    (case l_longest_run => k_is)
    (case c_longest_run => k_is)
    (case k_longest_run => k_is)
    (case a_init_Ply => k_is)
    (case i_init_Ply => k_is)
    (case l_init_Ply => k_is)
    (case c_init_Ply => k_is)
    (case k_init_Ply => k_is)
    (case a_init_Mould => k_is)
    (case i_init_Mould => k_is)
    (case l_init_Mould => k_is)
    (case c_init_Mould => k_is)
    (case k_init_Mould => k_is)
    (case a_begin => k_is)
    (case i_begin => k_is)
    (case l_begin => k_is)
    (case c_begin => k_is)
    (case k_begin => k_is)
    (case a_station_count => k_is)
    (case i_station_count => k_is)
    (case l_station_count => k_is)
    (case c_station_count => k_is)
    (case k_station_count => k_is)
    (case a_is_begun => k_is)
    (case i_is_begun => k_is)
    (case l_is_begun => k_is)
    (case c_is_begun => k_is)
    (case k_is_begun => k_is)
    (case a_has_station => k_is)
    (case i_has_station => k_is)
    (case l_has_station => k_is)
    (case c_has_station => k_is)
    (case k_has_station => k_is)
    (case a_stack_at => k_is)
    (case i_stack_at => k_is)
    (case l_stack_at => k_is)
    (case c_stack_at => k_is)
    (case k_stack_at => k_is)
    (case a_kinds_at => k_is)
    (case i_kinds_at => k_is)
    (case l_kinds_at => k_is)
    (case c_kinds_at => k_is)
    (case k_kinds_at => k_is)
    (case a_alike_at => k_is)
    (case i_alike_at => k_is)
    (case l_alike_at => k_is)
    (case c_alike_at => k_is)
    (case k_alike_at => k_is)
    (case a_layers_at => k_is)
    (case i_layers_at => k_is)
    (case l_layers_at => k_is)
    (case c_layers_at => k_is)
    (case k_layers_at => k_is)
    (case a_missing_at => k_is)
    (case i_missing_at => k_is)
    (case l_missing_at => k_is)
    (case c_missing_at => k_is)
    (case k_missing_at => k_is)
    (case a_lacking => k_is)
    (case i_lacking => k_is)
    (case l_lacking => k_is)
    (case c_lacking => k_is)
    (case k_lacking => k_is)
    (case a_planned => k_is)
    (case i_planned => k_is)
    (case l_planned => k_is)
    (case c_planned => k_is)
    (case k_planned => k_is)
    (case a_planned_fabric => k_is)
    (case i_planned_fabric => k_is)
    (case l_planned_fabric => k_is)
    (case c_planned_fabric => k_is)
    (case k_planned_fabric => k_is)
    (case a_ends_with => k_is)
    (case i_ends_with => k_is)
    (case l_ends_with => k_is)
    (case c_ends_with => k_is)
    (case k_ends_with => k_is)
    (case a_has_ends_for => k_is)
    (case i_has_ends_for => k_is)
    (case l_has_ends_for => k_is)
    (case c_has_ends_for => k_is)
    (case k_has_ends_for => k_is)
    (case a_fabric_of => k_is)
    (case i_fabric_of => k_is)
    (case l_fabric_of => k_is)
    (case c_fabric_of => k_is)
    (case k_fabric_of => k_is)
    (case a_fabric_in_plies => k_is)
    (case i_fabric_in_plies => k_is)
    (case l_fabric_in_plies => k_is)
    (case c_fabric_in_plies => k_is)
    (case k_fabric_in_plies => k_is)
    (case a_least_free_number => k_is)
    (case i_least_free_number => k_is)
    (case l_least_free_number => k_is)
    (case c_least_free_number => k_is)
    (case k_least_free_number => k_is)
    (case a_lay_ply => k_is)
    (case i_lay_ply => k_is)
    (case l_lay_ply => k_is)
    (case c_lay_ply => k_is)
    (case k_lay_ply => k_is)
    (case a_lift_ply => k_is)
    (case i_lift_ply => k_is)
    (case l_lift_ply => k_is)
    (case c_lift_ply => k_is)
    (case k_lift_ply => k_is)
    (case a_swap_plies => k_is)
    (case i_swap_plies => k_is)
    (case l_swap_plies => k_is)
    (case c_swap_plies => k_is)
    (case k_swap_plies => k_is)
    (case a_start => k_is)
    (case l_start => k_is)
    (case c_start => k_is)
    (case k_start => k_is)
    (case a_set_need => k_is)
    (case l_set_need => k_is)
    (case c_set_need => k_is)
    (case k_set_need => k_is)
    (case a_roll => k_is)
    (case l_roll => k_is)
    (case c_roll => k_is)
    (case k_roll => k_is)
    (case a_lay => k_is)
    (case l_lay => k_is)
    (case c_lay => k_is)
    (case k_lay => k_is)
    (case a_lift => k_is)
    (case l_lift => k_is)
    (case c_lift => k_is)
    (case k_lift => k_is)
    (case a_missing => k_is)
    (case l_missing => k_is)
    (case c_missing => k_is)
    (case k_missing => k_is)
    (case a_lacks => k_is)
    (case l_lacks => k_is)
    (case c_lacks => k_is)
    (case k_lacks => k_is)
    (case a_fewest => k_is)
    (case l_fewest => k_is)
    (case c_fewest => k_is)
    (case k_fewest => k_is)
    (case a_plan => k_is)
    (case l_plan => k_is)
    (case c_plan => k_is)
    (case k_plan => k_is)
    (case a_goes => k_is)
    (case l_goes => k_is)
    (case c_goes => k_is)
    (case k_goes => k_is)
    (case a_fabric => k_is)
    (case l_fabric => k_is)
    (case c_fabric => k_is)
    (case k_fabric => k_is)
    (case a_follow => k_is)
    (case l_follow => k_is)
    (case c_follow => k_is)
    (case k_follow => k_is)
    (case a_ends => k_is)
    (case l_ends => k_is)
    (case c_ends => k_is)
    (case k_ends => k_is)
    (case a_worst => k_is)
    (case l_worst => k_is)
    (case c_worst => k_is)
    (case k_worst => k_is)
    (case a_stack => k_is)
    (case l_stack => k_is)
    (case c_stack => k_is)
    (case k_stack => k_is)
    (case a_kinds => k_is)
    (case l_kinds => k_is)
    (case c_kinds => k_is)
    (case k_kinds => k_is)
    (case a_alike => k_is)
    (case l_alike => k_is)
    (case c_alike => k_is)
    (case k_alike => k_is)
    (case a_swap => k_is)
    (case l_swap => k_is)
    (case c_swap => k_is)
    (case k_swap => k_is)
    (case a_stock => k_is)
    (case l_stock => k_is)
    (case c_stock => k_is)
    (case k_stock => k_is)
    (case a_metres => k_is)
    (case l_metres => k_is)
    (case c_metres => k_is)
    (case k_metres => k_is)
    (case a_state => k_is)
    (case l_state => k_is)
    (case c_state => k_is)
    (case k_state => k_is)
    (case a_answer_call => k_is)
    (case l_answer_call => k_is)
    (case c_answer_call => k_is)
    (case k_answer_call => k_is)
    (case a_end_of_call => k_is)
    (case l_end_of_call => k_is)
    (case c_end_of_call => k_is)
    (case k_end_of_call => k_is)
    (case a_answers => k_is)
    (case l_answers => k_is)
    (case c_answers => k_is)
    (case k_answers => k_is)
    (case pgM => k_is)
    (case hdM => k_is)
    (case poM => k_is)
    (case saM => k_is)
    (case mkM => k_is)
    (case kcM => k_is)
    (case pgP => k_is)
    (case hdP => k_is)
    (case poP => k_is)
    (case saP => k_is)
    (case mkP => k_is)
    (case kcP => k_is)
    (case n_long => k_is)
    (case n_most_ends => k_is)
    (case n_need => k_is)
    (case n_plies => k_is)
    (case n_stock => k_is)
    (case n_scrap => k_is)
    (case n_first => k_is)
    (case n_behind => k_is)
    (case n_kind => k_is)
    (case z_len => k_is)
    (case z_max => k_is)
    (case z_min => k_is)
    (case z_sum => k_is)
    (case z_sorted => k_is)
    (case z_list => k_is)
    (case z_range => k_is)
    (case z_enumerate => k_is)
    (case v_KINDS => k_is)
    (case v_NO_SUCH_PLY => k_is)
    (case v_NOT_STARTED => k_is)
    (case v_TOO_LITTLE_FABRIC => k_is)
    (case v_TOO_MANY_ENDS => k_is)
    (case v_TOO_MANY_LAYERS => k_is)
    (case v_WRONG_NUMBER => k_is)
    (case v_TOO_MANY_PLIES => k_is)
    (case v_NOTHING_MISSING => k_is)
    (case v_START => k_is)
    (case v_LONGEST => k_is)
    (case v_MOST_ENDS => k_is)
    (case v_MOST_STATIONS => k_is)
    (case v_MOST_NEEDED => k_is)
    (case v_MOST_STOCK => k_is)
    (case v_MOST_PLIES => k_is)
    (case gPN => k_is)
    (case lPN => k_is)
    (case gCA => k_is)
    (case lCA => k_is)
    (case zPN => decide)
    (case vPN => repeat (first | exact .nil | refine .cons ⟨_, rfl⟩ ?_))
    (case eCA => decide +kernel)
  case S =>
    intro K H xs a hO hwi hask hx
    cases hx with
    | cons h1 h2 =>
      cases h2
      cases h1 with
      | lst hs ha =>
        have e := L2.ints_dw a.1 _ ha
        subst e
        exact ⟨_, a.1, rfl, hs, hask, fun H' p hp => .lst (L2.SqL.of hp) (L2.dw_ints _)⟩
#print axioms PySem.Challenge.cw_blademould_s01_answers_holds
