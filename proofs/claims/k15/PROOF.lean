import PyProof.Rows.All
import Wide.All
import OpenK.AllK
import Wide.FinOn
import Lean
import PyProof.EqAt
import PyProof.EqKinds
import PyProof.TupleCall
import PyProof.StrOps
import PySem.Challenge.RW_leastdeeds_k15_whole_steps_there_and_bac
set_option Elab.async false
set_option linter.all false
set_option maxRecDepth 100000
set_option maxHeartbeats 0
noncomputable section
namespace HD
open PySem PySem.W
def zjl (tb : String -> Option Builtin) (p : Program) (w : World) (n0 : Nat) (ann : Option Value) : Nat -> SharedT -> Thread -> Option SharedT
  | 0, _, _ => none
  | n + 1, s, t => match through t with
    | true => some s
    | false => match stepOk n0 ann t with
      | false => none
      | true => match stepT (denote tb) p w s t with
        | some (s', t') => zjl tb p w n0 ann n s' t'
        | none => none
theorem zof {tb : String -> Option Builtin} {p : Program} {w : World} {n0 : Nat} {ann : Option Value} : ∀ {n : Nat} {s s' : SharedT} {t : Thread}, zjl tb p w n0 ann n s t = some s' -> topRun tb p w n0 ann n s.abs t = some s'.abs
  | 0, _, _, _, h => by cases h
  | n + 1, s, s', t, h => by
    unfold zjl at h
    unfold topRun
    cases he : through t with
    | true => rw [he] at h; cases h; rfl
    | false =>
      rw [he] at h
      cases hk : stepOk n0 ann t with
      | false => rw [hk] at h; cases h
      | true =>
        rw [hk] at h
        cases hs : stepT (denote tb) p w s t with
        | none => rw [hs] at h; cases h
        | some r => obtain ⟨s2, t2⟩ := r; rw [hs] at h; rw [stepT_spec hs]; exact zof h
def treeOf : List Obj -> Nat -> BT -> BT
  | [], _, t => t
  | o :: r, n, t => treeOf r (n + 1) (t.ins n o)
def zt4 (P : Params) (os : OsState) : SharedT := ⟨treeOf (boot_heap P).objs.toList 0 .nil, (boot_heap P).objs.toList.length, (boot_heap P).life, #[], boot_drawn, boot_toks, os⟩
theorem boot_abs (P : Params) (os : OsState) : (zt4 P os).abs = ⟨boot_heap P, #[], boot_drawn, boot_toks, os⟩ := by kernel_rfl
def ztp (p q : Program) (loose : List Str) (Xt : Shared -> Bool) (g0 : Bool) (h0 : Heap) {α : Type} (Yf : Shared -> α) (s : Shared) :=
  ((staticsOk (importedModules p.main.body) h0 s.heap && namesBound p s.heap && gensDone s && laidKept h0 s.heap), openSeen q loose (importedModules p.main.body) Xt g0 s, Yf s)
theorem zqy {p q : Program} {loose : List Str} {Xt : Shared -> Bool} {α : Type} {Yf : Shared -> α} {Ya : World -> α} {N : Nat} {g0 : Bool} {m0 : Nat} {ann : Option Value}
    (open_ : ∀ w : World, (fencedOpening treeTable p w N).map (fun s => (s.heap, s.gens, s.drawn, s.toks)) = some (boot_heap w.params, Array.mk [], boot_drawn, boot_toks))
    (size : ∀ w : World, ((boot_heap w.params).isNs mainGlobals && (Array.mk ([] : List GenState)).size == 0, (boot_heap w.params).objs.size, (boot_heap w.params).nsMap mainGlobals "__annotations__") = (true, m0, ann))
    (run : ∀ (w : World) (os : OsState), (zjl treeTable p w m0 ann N (zt4 w.params os) (topStub p)).map (fun s => ztp p q loose Xt g0 (boot_heap w.params) Yf s.abs) = some (true, openGood q loose, Ya w)) : LeftO p q loose Xt Yf Ya N g0 := fun w => by
  obtain ⟨⟨h, gs, d, k, os⟩, e, e'⟩ := Option.map_eq_some_iff.mp (open_ w)
  obtain ⟨rfl, rfl, rfl, rfl⟩ : h = boot_heap w.params /\ gs = Array.mk [] /\ d = boot_drawn /\ k = boot_toks := by simpa using e'
  obtain ⟨z1, z2, z3⟩ : _ /\ _ /\ _ := by simpa only [Prod.mk.injEq] using size w
  obtain ⟨s1, r, l⟩ := Option.map_eq_some_iff.mp (run w os)
  obtain ⟨l1, l2, l3⟩ : _ /\ _ /\ _ := by simpa only [ztp, Prod.mk.injEq] using l
  have r := zof r
  rw [boot_abs] at r
  have t : topFrom treeTable p w N ⟨boot_heap w.params, Array.mk [], boot_drawn, boot_toks, os⟩ = some s1.abs := by
    unfold topFrom
    dsimp only
    rw [z1, z2, z3, r]
    show (match staticsOk (importedModules p.main.body) (boot_heap w.params) s1.abs.heap && namesBound p s1.abs.heap && gensDone s1.abs && laidKept (boot_heap w.params) s1.abs.heap with | true => _ | false => _) = _
    rw [l1]
  unfold openEnds
  rw [e]
  show (topFrom treeTable p w N _).map _ = _
  rw [t]
  exact congrArg some (Prod.ext l2 l3)
end HD
namespace K15
open PySem
def zap (i : Nat) : PySem.Stmt := PySem.Challenge.pw_leastdeeds_k15_whole_steps_there_and_bac.main.body.getD i (.Pass ⟨0, 0, 0, 0⟩)
def zbq (s : PySem.Stmt) : PySem.Arguments := match s with
  | .FunctionDef _ a _ _ _ _ _ _ _ _ => a
  | _ => ⟨[], [], none, [], [], none, []⟩
def zbp (s : PySem.Stmt) : List PySem.Stmt := match s with
  | .FunctionDef _ _ b _ _ _ _ _ _ _ => b
  | _ => []
def zbi (s : PySem.Stmt) : PySem.Scope := match s with
  | .FunctionDef _ _ _ _ _ _ sc _ _ _ => sc
  | _ => { kind := .function, names := [], isGenerator := false, isCoroutine := false }
def kh : PySem.Params -> PySem.W.Frag := fun P => [(3, { cls := .type "dict", data := .dict #[⟨PySem.PyData.keyHash P "__name__", .str "__name__" 165, .str "law_leastdeeds_k15_whole_steps_there_and_bac" 665⟩, ⟨PySem.PyData.keyHash P "__doc__", .str "__doc__" 166, .none⟩, ⟨PySem.PyData.keyHash P "__package__", .str "__package__" 167, .none⟩, ⟨PySem.PyData.keyHash P "__loader__", .str "__loader__" 168, .builtin "__main__.__loader__#opaque"⟩, ⟨PySem.PyData.keyHash P "__spec__", .str "__spec__" 169, .none⟩, ⟨PySem.PyData.keyHash P "__annotations__", .str "__annotations__" 170, .ref 6⟩, ⟨PySem.PyData.keyHash P "__builtins__", .str "__builtins__" 171, .ref 4⟩, ⟨PySem.PyData.keyHash P "__file__", .str "__file__" 173, .str "/claim/cut.py" 172⟩, ⟨PySem.PyData.keyHash P "__cached__", .str "__cached__" 174, .none⟩, ⟨PySem.PyData.keyHash P "DeedError", .str "DeedError" 206, .ref 24⟩, ⟨PySem.PyData.keyHash P "NoRow", .str "NoRow" 231, .ref 44⟩, ⟨PySem.PyData.keyHash P "NoRule", .str "NoRule" 256, .ref 63⟩, ⟨PySem.PyData.keyHash P "NoStep", .str "NoStep" 281, .ref 82⟩, ⟨PySem.PyData.keyHash P "NoMachine", .str "NoMachine" 297, .ref 94⟩, ⟨PySem.PyData.keyHash P "TooLong", .str "TooLong" 313, .ref 106⟩, ⟨PySem.PyData.keyHash P "is_between", .str "is_between" 324, .ref 115⟩, ⟨PySem.PyData.keyHash P "LEAST_WORDS", .str "LEAST_WORDS" 328, .int 2 327⟩, ⟨PySem.PyData.keyHash P "MOST_WORDS", .str "MOST_WORDS" 330, .int 4 329⟩, ⟨PySem.PyData.keyHash P "MOST_PLACES", .str "MOST_PLACES" 332, .int 2 331⟩, ⟨PySem.PyData.keyHash P "MOST_DEEDS", .str "MOST_DEEDS" 334, .int 6 333⟩, ⟨PySem.PyData.keyHash P "MOST_COST", .str "MOST_COST" 336, .int 3 335⟩, ⟨PySem.PyData.keyHash P "LONGEST_ROW", .str "LONGEST_ROW" 338, .int 40 337⟩, ⟨PySem.PyData.keyHash P "is_word", .str "is_word" 346, .ref 122⟩, ⟨PySem.PyData.keyHash P "is_place", .str "is_place" 354, .ref 129⟩, ⟨PySem.PyData.keyHash P "is_cost", .str "is_cost" 361, .ref 136⟩, ⟨PySem.PyData.keyHash P "is_tuple_of", .str "is_tuple_of" 369, .ref 143⟩, ⟨PySem.PyData.keyHash P "is_table", .str "is_table" 375, .ref 148⟩, ⟨PySem.PyData.keyHash P "is_double_table", .str "is_double_table" 381, .ref 153⟩, ⟨PySem.PyData.keyHash P "is_turn", .str "is_turn" 393, .ref 160⟩, ⟨PySem.PyData.keyHash P "is_join", .str "is_join" 406, .ref 167⟩, ⟨PySem.PyData.keyHash P "is_move", .str "is_move" 418, .ref 174⟩, ⟨PySem.PyData.keyHash P "is_put", .str "is_put" 430, .ref 181⟩, ⟨PySem.PyData.keyHash P "SORTS", .str "SORTS" 439, .ref 182⟩, ⟨PySem.PyData.keyHash P "is_deed", .str "is_deed" 450, .ref 189⟩, ⟨PySem.PyData.keyHash P "is_machine", .str "is_machine" 456, .ref 194⟩, ⟨PySem.PyData.keyHash P "need_machine", .str "need_machine" 463, .ref 201⟩, ⟨PySem.PyData.keyHash P "beginnings", .str "beginnings" 469, .ref 206⟩, ⟨PySem.PyData.keyHash P "is_deed_number", .str "is_deed_number" 477, .ref 213⟩, ⟨PySem.PyData.keyHash P "need_numbers", .str "need_numbers" 487, .ref 220⟩, ⟨PySem.PyData.keyHash P "need_row", .str "need_row" 495, .ref 227⟩, ⟨PySem.PyData.keyHash P "turned", .str "turned" 509, .ref 234⟩, ⟨PySem.PyData.keyHash P "joined", .str "joined" 522, .ref 241⟩, ⟨PySem.PyData.keyHash P "moved", .str "moved" 534, .ref 248⟩, ⟨PySem.PyData.keyHash P "put_in", .str "put_in" 546, .ref 255⟩, ⟨PySem.PyData.keyHash P "NEW_WORDS", .str "NEW_WORDS" 555, .ref 256⟩, ⟨PySem.PyData.keyHash P "done", .str "done" 565, .ref 263⟩, ⟨PySem.PyData.keyHash P "all_standing", .str "all_standing" 576, .ref 270⟩, ⟨PySem.PyData.keyHash P "ends_of", .str "ends_of" 582, .ref 275⟩, ⟨PySem.PyData.keyHash P "behaviour", .str "behaviour" 590, .ref 282⟩, ⟨PySem.PyData.keyHash P "parted", .str "parted" 606, .ref 289⟩, ⟨PySem.PyData.keyHash P "is_row", .str "is_row" 614, .ref 296⟩, ⟨PySem.PyData.keyHash P "is_rule", .str "is_rule" 624, .ref 303⟩, ⟨PySem.PyData.keyHash P "need_rules", .str "need_rules" 634, .ref 310⟩, ⟨PySem.PyData.keyHash P "behind_step", .str "behind_step" 650, .ref 317⟩, ⟨PySem.PyData.keyHash P "stepped", .str "stepped" 664, .ref 324⟩, ⟨PySem.PyData.keyHash P "_law_spread", .str "_law_spread" 678, .ref 331⟩, ⟨PySem.PyData.keyHash P "_law_open", .str "_law_open" 688, .ref 338⟩, ⟨PySem.PyData.keyHash P "_law_anew", .str "_law_anew" 695, .ref 345⟩, ⟨PySem.PyData.keyHash P "_law_take", .str "_law_take" 706, .ref 352⟩, ⟨PySem.PyData.keyHash P "_law_tab", .str "_law_tab" 712, .ref 357⟩, ⟨PySem.PyData.keyHash P "_law_deed", .str "_law_deed" 718, .ref 362⟩, ⟨PySem.PyData.keyHash P "_law_machine", .str "_law_machine" 732, .ref 369⟩, ⟨PySem.PyData.keyHash P "_law_row", .str "_law_row" 738, .ref 374⟩, ⟨PySem.PyData.keyHash P "_law_after", .str "_law_after" 748, .ref 381⟩, ⟨PySem.PyData.keyHash P "_law_begins", .str "_law_begins" 754, .ref 386⟩, ⟨PySem.PyData.keyHash P "_law_ends", .str "_law_ends" 765, .ref 393⟩, ⟨PySem.PyData.keyHash P "_law_alike_pairs", .str "_law_alike_pairs" 771, .ref 398⟩, ⟨PySem.PyData.keyHash P "_law_copied", .str "_law_copied" 777, .ref 403⟩, ⟨PySem.PyData.keyHash P "_law_places", .str "_law_places" 783, .ref 408⟩, ⟨PySem.PyData.keyHash P "_law_walk", .str "_law_walk" 800, .ref 415⟩, ⟨PySem.PyData.keyHash P "law", .str "law" 806, .ref 420⟩] 71 }),
  (114, { cls := .type "code", data := .fields #[.str "is_between" 316, .str "is_between" 317, .str "/claim/cut.py" 318, .int 24 0, .int 3 0, .int 0 0, .int 0 0, .int 3 0, .ref 109, .bool true, .int 181 0, .ref 110, .none, .ref 111, .ref 112, .ref 113, .int 322 0, .int 24 0, .str "/claim/cut.py" 323] }),
  (115, { cls := .type "function", data := .func { name := "is_between", qualname := "is_between", params := zbq (zap 8), body := PySem.FuncBody.stmts (zbp (zap 8)), scope := zbi (zap 8), globals := 3, closure := [], defaults := .none, kwdefaults := .none, pyModule := .str "leastdeeds.wholes" 314, code := .ref 114 } }),
  (121, { cls := .type "code", data := .fields #[.str "is_word" 339, .str "is_word" 340, .str "/claim/cut.py" 341, .int 35 0, .int 2 0, .int 0 0, .int 0 0, .int 3 0, .ref 116, .bool true, .int 181 0, .ref 117, .none, .ref 118, .ref 119, .ref 120, .int 344 0, .int 35 0, .str "/claim/cut.py" 345] }),
  (122, { cls := .type "function", data := .func { name := "is_word", qualname := "is_word", params := zbq (zap 16), body := PySem.FuncBody.stmts (zbp (zap 16)), scope := zbi (zap 16), globals := 3, closure := [], defaults := .none, kwdefaults := .none, pyModule := .str "leastdeeds.machines" 325, code := .ref 121 } }),
  (128, { cls := .type "code", data := .fields #[.str "is_place" 347, .str "is_place" 348, .str "/claim/cut.py" 349, .int 37 0, .int 2 0, .int 0 0, .int 0 0, .int 3 0, .ref 123, .bool true, .int 181 0, .ref 124, .none, .ref 125, .ref 126, .ref 127, .int 352 0, .int 37 0, .str "/claim/cut.py" 353] }),
  (129, { cls := .type "function", data := .func { name := "is_place", qualname := "is_place", params := zbq (zap 17), body := PySem.FuncBody.stmts (zbp (zap 17)), scope := zbi (zap 17), globals := 3, closure := [], defaults := .none, kwdefaults := .none, pyModule := .str "leastdeeds.machines" 325, code := .ref 128 } }),
  (135, { cls := .type "code", data := .fields #[.str "is_cost" 355, .str "is_cost" 356, .str "/claim/cut.py" 357, .int 39 0, .int 1 0, .int 0 0, .int 0 0, .int 3 0, .ref 130, .bool true, .int 181 0, .ref 131, .none, .ref 132, .ref 133, .ref 134, .int 359 0, .int 39 0, .str "/claim/cut.py" 360] }),
  (136, { cls := .type "function", data := .func { name := "is_cost", qualname := "is_cost", params := zbq (zap 18), body := PySem.FuncBody.stmts (zbp (zap 18)), scope := zbi (zap 18), globals := 3, closure := [], defaults := .none, kwdefaults := .none, pyModule := .str "leastdeeds.machines" 325, code := .ref 135 } }),
  (142, { cls := .type "code", data := .fields #[.str "is_tuple_of" 362, .str "is_tuple_of" 363, .str "/claim/cut.py" 364, .int 41 0, .int 2 0, .int 0 0, .int 0 0, .int 3 0, .ref 137, .bool true, .int 181 0, .ref 138, .none, .ref 139, .ref 140, .ref 141, .int 367 0, .int 41 0, .str "/claim/cut.py" 368] }),
  (143, { cls := .type "function", data := .func { name := "is_tuple_of", qualname := "is_tuple_of", params := zbq (zap 19), body := PySem.FuncBody.stmts (zbp (zap 19)), scope := zbi (zap 19), globals := 3, closure := [], defaults := .none, kwdefaults := .none, pyModule := .str "leastdeeds.machines" 325, code := .ref 142 } }),
  (147, { cls := .type "code", data := .fields #[.str "is_table" 370, .str "is_table" 371, .str "/claim/cut.py" 372, .int 43 0, .int 2 0, .int 0 0, .int 0 0, .int 3 0, .ref 144, .bool true, .int 181 0, .ref 145, .none, .none, .none, .ref 146, .int 373 0, .int 43 0, .str "/claim/cut.py" 374] }),
  (148, { cls := .type "function", data := .func { name := "is_table", qualname := "is_table", params := zbq (zap 20), body := PySem.FuncBody.stmts (zbp (zap 20)), scope := zbi (zap 20), globals := 3, closure := [], defaults := .none, kwdefaults := .none, pyModule := .str "leastdeeds.machines" 325, code := .ref 147 } }),
  (152, { cls := .type "code", data := .fields #[.str "is_double_table" 376, .str "is_double_table" 377, .str "/claim/cut.py" 378, .int 45 0, .int 2 0, .int 0 0, .int 0 0, .int 3 0, .ref 149, .bool true, .int 181 0, .ref 150, .none, .none, .none, .ref 151, .int 379 0, .int 45 0, .str "/claim/cut.py" 380] }),
  (153, { cls := .type "function", data := .func { name := "is_double_table", qualname := "is_double_table", params := zbq (zap 21), body := PySem.FuncBody.stmts (zbp (zap 21)), scope := zbi (zap 21), globals := 3, closure := [], defaults := .none, kwdefaults := .none, pyModule := .str "leastdeeds.machines" 325, code := .ref 152 } }),
  (159, { cls := .type "code", data := .fields #[.str "is_turn" 382, .str "is_turn" 383, .str "/claim/cut.py" 384, .int 47 0, .int 3 0, .int 0 0, .int 0 0, .int 3 0, .ref 154, .bool true, .int 181 0, .ref 155, .none, .ref 156, .ref 157, .ref 158, .int 391 0, .int 47 0, .str "/claim/cut.py" 392] }),
  (160, { cls := .type "function", data := .func { name := "is_turn", qualname := "is_turn", params := zbq (zap 22), body := PySem.FuncBody.stmts (zbp (zap 22)), scope := zbi (zap 22), globals := 3, closure := [], defaults := .none, kwdefaults := .none, pyModule := .str "leastdeeds.machines" 325, code := .ref 159 } }),
  (166, { cls := .type "code", data := .fields #[.str "is_join" 394, .str "is_join" 395, .str "/claim/cut.py" 396, .int 52 0, .int 3 0, .int 0 0, .int 0 0, .int 3 0, .ref 161, .bool true, .int 181 0, .ref 162, .none, .ref 163, .ref 164, .ref 165, .int 404 0, .int 52 0, .str "/claim/cut.py" 405] }),
  (167, { cls := .type "function", data := .func { name := "is_join", qualname := "is_join", params := zbq (zap 23), body := PySem.FuncBody.stmts (zbp (zap 23)), scope := zbi (zap 23), globals := 3, closure := [], defaults := .none, kwdefaults := .none, pyModule := .str "leastdeeds.machines" 325, code := .ref 166 } }),
  (173, { cls := .type "code", data := .fields #[.str "is_move" 407, .str "is_move" 408, .str "/claim/cut.py" 409, .int 59 0, .int 3 0, .int 0 0, .int 0 0, .int 3 0, .ref 168, .bool true, .int 181 0, .ref 169, .none, .ref 170, .ref 171, .ref 172, .int 416 0, .int 59 0, .str "/claim/cut.py" 417] }),
  (174, { cls := .type "function", data := .func { name := "is_move", qualname := "is_move", params := zbq (zap 24), body := PySem.FuncBody.stmts (zbp (zap 24)), scope := zbi (zap 24), globals := 3, closure := [], defaults := .none, kwdefaults := .none, pyModule := .str "leastdeeds.machines" 325, code := .ref 173 } }),
  (180, { cls := .type "code", data := .fields #[.str "is_put" 419, .str "is_put" 420, .str "/claim/cut.py" 421, .int 64 0, .int 3 0, .int 0 0, .int 0 0, .int 3 0, .ref 175, .bool true, .int 181 0, .ref 176, .none, .ref 177, .ref 178, .ref 179, .int 428 0, .int 64 0, .str "/claim/cut.py" 429] }),
  (181, { cls := .type "function", data := .func { name := "is_put", qualname := "is_put", params := zbq (zap 25), body := PySem.FuncBody.stmts (zbp (zap 25)), scope := zbi (zap 25), globals := 3, closure := [], defaults := .none, kwdefaults := .none, pyModule := .str "leastdeeds.machines" 325, code := .ref 180 } }),
  (182, { cls := .type "dict", data := .dict #[⟨PySem.PyData.keyHash P "turn", .str "turn" 431, .ref 160⟩, ⟨PySem.PyData.keyHash P "join", .str "join" 432, .ref 167⟩, ⟨PySem.PyData.keyHash P "move", .str "move" 433, .ref 174⟩, ⟨PySem.PyData.keyHash P "put", .str "put" 434, .ref 181⟩] 4 }),
  (188, { cls := .type "code", data := .fields #[.str "is_deed" 440, .str "is_deed" 441, .str "/claim/cut.py" 442, .int 70 0, .int 3 0, .int 0 0, .int 0 0, .int 3 0, .ref 183, .bool true, .int 181 0, .ref 184, .none, .ref 185, .ref 186, .ref 187, .int 448 0, .int 70 0, .str "/claim/cut.py" 449] }),
  (189, { cls := .type "function", data := .func { name := "is_deed", qualname := "is_deed", params := zbq (zap 27), body := PySem.FuncBody.stmts (zbp (zap 27)), scope := zbi (zap 27), globals := 3, closure := [], defaults := .none, kwdefaults := .none, pyModule := .str "leastdeeds.machines" 325, code := .ref 188 } }),
  (193, { cls := .type "code", data := .fields #[.str "is_machine" 451, .str "is_machine" 452, .str "/claim/cut.py" 453, .int 78 0, .int 1 0, .int 0 0, .int 0 0, .int 3 0, .ref 190, .bool true, .int 181 0, .ref 191, .none, .none, .none, .ref 192, .int 454 0, .int 78 0, .str "/claim/cut.py" 455] }),
  (194, { cls := .type "function", data := .func { name := "is_machine", qualname := "is_machine", params := zbq (zap 28), body := PySem.FuncBody.stmts (zbp (zap 28)), scope := zbi (zap 28), globals := 3, closure := [], defaults := .none, kwdefaults := .none, pyModule := .str "leastdeeds.machines" 325, code := .ref 193 } }),
  (200, { cls := .type "code", data := .fields #[.str "need_machine" 457, .str "need_machine" 458, .str "/claim/cut.py" 459, .int 87 0, .int 1 0, .int 0 0, .int 0 0, .int 3 0, .ref 195, .bool true, .int 181 0, .ref 196, .none, .ref 197, .ref 198, .ref 199, .int 461 0, .int 87 0, .str "/claim/cut.py" 462] }),
  (201, { cls := .type "function", data := .func { name := "need_machine", qualname := "need_machine", params := zbq (zap 29), body := PySem.FuncBody.stmts (zbp (zap 29)), scope := zbi (zap 29), globals := 3, closure := [], defaults := .none, kwdefaults := .none, pyModule := .str "leastdeeds.machines" 325, code := .ref 200 } }),
  (205, { cls := .type "code", data := .fields #[.str "beginnings" 464, .str "beginnings" 465, .str "/claim/cut.py" 466, .int 90 0, .int 1 0, .int 0 0, .int 0 0, .int 3 0, .ref 202, .bool true, .int 181 0, .ref 203, .none, .none, .none, .ref 204, .int 467 0, .int 90 0, .str "/claim/cut.py" 468] }),
  (206, { cls := .type "function", data := .func { name := "beginnings", qualname := "beginnings", params := zbq (zap 30), body := PySem.FuncBody.stmts (zbp (zap 30)), scope := zbi (zap 30), globals := 3, closure := [], defaults := .none, kwdefaults := .none, pyModule := .str "leastdeeds.machines" 325, code := .ref 205 } }),
  (212, { cls := .type "code", data := .fields #[.str "is_deed_number" 470, .str "is_deed_number" 471, .str "/claim/cut.py" 472, .int 97 0, .int 2 0, .int 0 0, .int 0 0, .int 3 0, .ref 207, .bool true, .int 181 0, .ref 208, .none, .ref 209, .ref 210, .ref 211, .int 475 0, .int 97 0, .str "/claim/cut.py" 476] }),
  (213, { cls := .type "function", data := .func { name := "is_deed_number", qualname := "is_deed_number", params := zbq (zap 31), body := PySem.FuncBody.stmts (zbp (zap 31)), scope := zbi (zap 31), globals := 3, closure := [], defaults := .none, kwdefaults := .none, pyModule := .str "leastdeeds.machines" 325, code := .ref 212 } }),
  (219, { cls := .type "code", data := .fields #[.str "need_numbers" 478, .str "need_numbers" 479, .str "/claim/cut.py" 480, .int 99 0, .int 2 0, .int 0 0, .int 0 0, .int 3 0, .ref 214, .bool true, .int 181 0, .ref 215, .none, .ref 216, .ref 217, .ref 218, .int 485 0, .int 99 0, .str "/claim/cut.py" 486] }),
  (220, { cls := .type "function", data := .func { name := "need_numbers", qualname := "need_numbers", params := zbq (zap 32), body := PySem.FuncBody.stmts (zbp (zap 32)), scope := zbi (zap 32), globals := 3, closure := [], defaults := .none, kwdefaults := .none, pyModule := .str "leastdeeds.machines" 325, code := .ref 219 } }),
  (226, { cls := .type "code", data := .fields #[.str "need_row" 488, .str "need_row" 489, .str "/claim/cut.py" 490, .int 105 0, .int 2 0, .int 0 0, .int 0 0, .int 3 0, .ref 221, .bool true, .int 181 0, .ref 222, .none, .ref 223, .ref 224, .ref 225, .int 493 0, .int 105 0, .str "/claim/cut.py" 494] }),
  (227, { cls := .type "function", data := .func { name := "need_row", qualname := "need_row", params := zbq (zap 33), body := PySem.FuncBody.stmts (zbp (zap 33)), scope := zbi (zap 33), globals := 3, closure := [], defaults := .none, kwdefaults := .none, pyModule := .str "leastdeeds.machines" 325, code := .ref 226 } }),
  (233, { cls := .type "code", data := .fields #[.str "turned" 498, .str "turned" 499, .str "/claim/cut.py" 500, .int 111 0, .int 2 0, .int 0 0, .int 0 0, .int 3 0, .ref 228, .bool true, .int 181 0, .ref 229, .none, .ref 230, .ref 231, .ref 232, .int 507 0, .int 111 0, .str "/claim/cut.py" 508] }),
  (234, { cls := .type "function", data := .func { name := "turned", qualname := "turned", params := zbq (zap 35), body := PySem.FuncBody.stmts (zbp (zap 35)), scope := zbi (zap 35), globals := 3, closure := [], defaults := .none, kwdefaults := .none, pyModule := .str "leastdeeds.runs" 496, code := .ref 233 } }),
  (240, { cls := .type "code", data := .fields #[.str "joined" 510, .str "joined" 511, .str "/claim/cut.py" 512, .int 114 0, .int 2 0, .int 0 0, .int 0 0, .int 3 0, .ref 235, .bool true, .int 181 0, .ref 236, .none, .ref 237, .ref 238, .ref 239, .int 520 0, .int 114 0, .str "/claim/cut.py" 521] }),
  (241, { cls := .type "function", data := .func { name := "joined", qualname := "joined", params := zbq (zap 36), body := PySem.FuncBody.stmts (zbp (zap 36)), scope := zbi (zap 36), globals := 3, closure := [], defaults := .none, kwdefaults := .none, pyModule := .str "leastdeeds.runs" 496, code := .ref 240 } }),
  (247, { cls := .type "code", data := .fields #[.str "moved" 523, .str "moved" 524, .str "/claim/cut.py" 525, .int 117 0, .int 2 0, .int 0 0, .int 0 0, .int 3 0, .ref 242, .bool true, .int 181 0, .ref 243, .none, .ref 244, .ref 245, .ref 246, .int 532 0, .int 117 0, .str "/claim/cut.py" 533] }),
  (248, { cls := .type "function", data := .func { name := "moved", qualname := "moved", params := zbq (zap 37), body := PySem.FuncBody.stmts (zbp (zap 37)), scope := zbi (zap 37), globals := 3, closure := [], defaults := .none, kwdefaults := .none, pyModule := .str "leastdeeds.runs" 496, code := .ref 247 } }),
  (254, { cls := .type "code", data := .fields #[.str "put_in" 535, .str "put_in" 536, .str "/claim/cut.py" 537, .int 120 0, .int 2 0, .int 0 0, .int 0 0, .int 3 0, .ref 249, .bool true, .int 181 0, .ref 250, .none, .ref 251, .ref 252, .ref 253, .int 544 0, .int 120 0, .str "/claim/cut.py" 545] }),
  (255, { cls := .type "function", data := .func { name := "put_in", qualname := "put_in", params := zbq (zap 38), body := PySem.FuncBody.stmts (zbp (zap 38)), scope := zbi (zap 38), globals := 3, closure := [], defaults := .none, kwdefaults := .none, pyModule := .str "leastdeeds.runs" 496, code := .ref 254 } }),
  (256, { cls := .type "dict", data := .dict #[⟨PySem.PyData.keyHash P "turn", .str "turn" 547, .ref 234⟩, ⟨PySem.PyData.keyHash P "join", .str "join" 548, .ref 241⟩, ⟨PySem.PyData.keyHash P "move", .str "move" 549, .ref 248⟩, ⟨PySem.PyData.keyHash P "put", .str "put" 550, .ref 255⟩] 4 }),
  (262, { cls := .type "code", data := .fields #[.str "done" 556, .str "done" 557, .str "/claim/cut.py" 558, .int 124 0, .int 2 0, .int 0 0, .int 0 0, .int 3 0, .ref 257, .bool true, .int 181 0, .ref 258, .none, .ref 259, .ref 260, .ref 261, .int 563 0, .int 124 0, .str "/claim/cut.py" 564] }),
  (263, { cls := .type "function", data := .func { name := "done", qualname := "done", params := zbq (zap 40), body := PySem.FuncBody.stmts (zbp (zap 40)), scope := zbi (zap 40), globals := 3, closure := [], defaults := .none, kwdefaults := .none, pyModule := .str "leastdeeds.runs" 496, code := .ref 262 } }),
  (269, { cls := .type "code", data := .fields #[.str "all_standing" 566, .str "all_standing" 567, .str "/claim/cut.py" 568, .int 128 0, .int 3 0, .int 0 0, .int 0 0, .int 3 0, .ref 264, .bool true, .int 181 0, .ref 265, .none, .ref 266, .ref 267, .ref 268, .int 574 0, .int 128 0, .str "/claim/cut.py" 575] }),
  (270, { cls := .type "function", data := .func { name := "all_standing", qualname := "all_standing", params := zbq (zap 41), body := PySem.FuncBody.stmts (zbp (zap 41)), scope := zbi (zap 41), globals := 3, closure := [], defaults := .none, kwdefaults := .none, pyModule := .str "leastdeeds.runs" 496, code := .ref 269 } }),
  (274, { cls := .type "code", data := .fields #[.str "ends_of" 577, .str "ends_of" 578, .str "/claim/cut.py" 579, .int 133 0, .int 2 0, .int 0 0, .int 0 0, .int 3 0, .ref 271, .bool true, .int 181 0, .ref 272, .none, .none, .none, .ref 273, .int 580 0, .int 133 0, .str "/claim/cut.py" 581] }),
  (275, { cls := .type "function", data := .func { name := "ends_of", qualname := "ends_of", params := zbq (zap 42), body := PySem.FuncBody.stmts (zbp (zap 42)), scope := zbi (zap 42), globals := 3, closure := [], defaults := .none, kwdefaults := .none, pyModule := .str "leastdeeds.runs" 496, code := .ref 274 } }),
  (281, { cls := .type "code", data := .fields #[.str "behaviour" 583, .str "behaviour" 584, .str "/claim/cut.py" 585, .int 135 0, .int 2 0, .int 0 0, .int 0 0, .int 3 0, .ref 276, .bool true, .int 181 0, .ref 277, .none, .ref 278, .ref 279, .ref 280, .int 588 0, .int 135 0, .str "/claim/cut.py" 589] }),
  (282, { cls := .type "function", data := .func { name := "behaviour", qualname := "behaviour", params := zbq (zap 43), body := PySem.FuncBody.stmts (zbp (zap 43)), scope := zbi (zap 43), globals := 3, closure := [], defaults := .none, kwdefaults := .none, pyModule := .str "leastdeeds.runs" 496, code := .ref 281 } }),
  (288, { cls := .type "code", data := .fields #[.str "parted" 593, .str "parted" 594, .str "/claim/cut.py" 595, .int 139 0, .int 3 0, .int 0 0, .int 0 0, .int 3 0, .ref 283, .bool true, .int 181 0, .ref 284, .none, .ref 285, .ref 286, .ref 287, .int 604 0, .int 139 0, .str "/claim/cut.py" 605] }),
  (289, { cls := .type "function", data := .func { name := "parted", qualname := "parted", params := zbq (zap 45), body := PySem.FuncBody.stmts (zbp (zap 45)), scope := zbi (zap 45), globals := 3, closure := [], defaults := .none, kwdefaults := .none, pyModule := .str "leastdeeds.alike" 591, code := .ref 288 } }),
  (295, { cls := .type "code", data := .fields #[.str "is_row" 607, .str "is_row" 608, .str "/claim/cut.py" 609, .int 146 0, .int 2 0, .int 0 0, .int 0 0, .int 3 0, .ref 290, .bool true, .int 181 0, .ref 291, .none, .ref 292, .ref 293, .ref 294, .int 612 0, .int 146 0, .str "/claim/cut.py" 613] }),
  (296, { cls := .type "function", data := .func { name := "is_row", qualname := "is_row", params := zbq (zap 46), body := PySem.FuncBody.stmts (zbp (zap 46)), scope := zbi (zap 46), globals := 3, closure := [], defaults := .none, kwdefaults := .none, pyModule := .str "leastdeeds.alike" 591, code := .ref 295 } }),
  (302, { cls := .type "code", data := .fields #[.str "is_rule" 615, .str "is_rule" 616, .str "/claim/cut.py" 617, .int 152 0, .int 2 0, .int 0 0, .int 0 0, .int 3 0, .ref 297, .bool true, .int 181 0, .ref 298, .none, .ref 299, .ref 300, .ref 301, .int 622 0, .int 152 0, .str "/claim/cut.py" 623] }),
  (303, { cls := .type "function", data := .func { name := "is_rule", qualname := "is_rule", params := zbq (zap 47), body := PySem.FuncBody.stmts (zbp (zap 47)), scope := zbi (zap 47), globals := 3, closure := [], defaults := .none, kwdefaults := .none, pyModule := .str "leastdeeds.alike" 591, code := .ref 302 } }),
  (309, { cls := .type "code", data := .fields #[.str "need_rules" 625, .str "need_rules" 626, .str "/claim/cut.py" 627, .int 157 0, .int 2 0, .int 0 0, .int 0 0, .int 3 0, .ref 304, .bool true, .int 181 0, .ref 305, .none, .ref 306, .ref 307, .ref 308, .int 632 0, .int 157 0, .str "/claim/cut.py" 633] }),
  (310, { cls := .type "function", data := .func { name := "need_rules", qualname := "need_rules", params := zbq (zap 48), body := PySem.FuncBody.stmts (zbp (zap 48)), scope := zbi (zap 48), globals := 3, closure := [], defaults := .none, kwdefaults := .none, pyModule := .str "leastdeeds.alike" 591, code := .ref 309 } }),
  (316, { cls := .type "code", data := .fields #[.str "behind_step" 635, .str "behind_step" 636, .str "/claim/cut.py" 637, .int 162 0, .int 3 0, .int 0 0, .int 0 0, .int 3 0, .ref 311, .bool true, .int 181 0, .ref 312, .none, .ref 313, .ref 314, .ref 315, .int 648 0, .int 162 0, .str "/claim/cut.py" 649] }),
  (317, { cls := .type "function", data := .func { name := "behind_step", qualname := "behind_step", params := zbq (zap 49), body := PySem.FuncBody.stmts (zbp (zap 49)), scope := zbi (zap 49), globals := 3, closure := [], defaults := .none, kwdefaults := .none, pyModule := .str "leastdeeds.alike" 591, code := .ref 316 } }),
  (323, { cls := .type "code", data := .fields #[.str "stepped" 651, .str "stepped" 652, .str "/claim/cut.py" 653, .int 174 0, .int 4 0, .int 0 0, .int 0 0, .int 3 0, .ref 318, .bool true, .int 181 0, .ref 319, .none, .ref 320, .ref 321, .ref 322, .int 662 0, .int 174 0, .str "/claim/cut.py" 663] }),
  (324, { cls := .type "function", data := .func { name := "stepped", qualname := "stepped", params := zbq (zap 50), body := PySem.FuncBody.stmts (zbp (zap 50)), scope := zbi (zap 50), globals := 3, closure := [], defaults := .none, kwdefaults := .none, pyModule := .str "leastdeeds.alike" 591, code := .ref 323 } }),
  (330, { cls := .type "code", data := .fields #[.str "_law_spread" 667, .str "_law_spread" 668, .str "/claim/cut.py" 669, .int 185 0, .int 2 0, .int 0 0, .int 0 0, .int 3 0, .ref 325, .bool true, .int 181 0, .ref 326, .none, .ref 327, .ref 328, .ref 329, .int 676 0, .int 185 0, .str "/claim/cut.py" 677] }),
  (331, { cls := .type "function", data := .func { name := "_law_spread", qualname := "_law_spread", params := zbq (zap 52), body := PySem.FuncBody.stmts (zbp (zap 52)), scope := zbi (zap 52), globals := 3, closure := [], defaults := .none, kwdefaults := .none, pyModule := .str "law_leastdeeds_k15_whole_steps_there_and_bac" 665, code := .ref 330 } }),
  (337, { cls := .type "code", data := .fields #[.str "_law_open" 679, .str "_law_open" 680, .str "/claim/cut.py" 681, .int 194 0, .int 1 0, .int 0 0, .int 0 0, .int 3 0, .ref 332, .bool true, .int 181 0, .ref 333, .none, .ref 334, .ref 335, .ref 336, .int 686 0, .int 194 0, .str "/claim/cut.py" 687] }),
  (338, { cls := .type "function", data := .func { name := "_law_open", qualname := "_law_open", params := zbq (zap 53), body := PySem.FuncBody.stmts (zbp (zap 53)), scope := zbi (zap 53), globals := 3, closure := [], defaults := .none, kwdefaults := .none, pyModule := .str "law_leastdeeds_k15_whole_steps_there_and_bac" 665, code := .ref 337 } }),
  (344, { cls := .type "code", data := .fields #[.str "_law_anew" 689, .str "_law_anew" 690, .str "/claim/cut.py" 691, .int 199 0, .int 1 0, .int 0 0, .int 0 0, .int 3 0, .ref 339, .bool true, .int 181 0, .ref 340, .none, .ref 341, .ref 342, .ref 343, .int 693 0, .int 199 0, .str "/claim/cut.py" 694] }),
  (345, { cls := .type "function", data := .func { name := "_law_anew", qualname := "_law_anew", params := zbq (zap 54), body := PySem.FuncBody.stmts (zbp (zap 54)), scope := zbi (zap 54), globals := 3, closure := [], defaults := .none, kwdefaults := .none, pyModule := .str "law_leastdeeds_k15_whole_steps_there_and_bac" 665, code := .ref 344 } }),
  (351, { cls := .type "code", data := .fields #[.str "_law_take" 696, .str "_law_take" 697, .str "/claim/cut.py" 698, .int 202 0, .int 2 0, .int 0 0, .int 0 0, .int 3 0, .ref 346, .bool true, .int 181 0, .ref 347, .none, .ref 348, .ref 349, .ref 350, .int 704 0, .int 202 0, .str "/claim/cut.py" 705] }),
  (352, { cls := .type "function", data := .func { name := "_law_take", qualname := "_law_take", params := zbq (zap 55), body := PySem.FuncBody.stmts (zbp (zap 55)), scope := zbi (zap 55), globals := 3, closure := [], defaults := .none, kwdefaults := .none, pyModule := .str "law_leastdeeds_k15_whole_steps_there_and_bac" 665, code := .ref 351 } }),
  (356, { cls := .type "code", data := .fields #[.str "_law_tab" 707, .str "_law_tab" 708, .str "/claim/cut.py" 709, .int 215 0, .int 2 0, .int 0 0, .int 0 0, .int 3 0, .ref 353, .bool true, .int 181 0, .ref 354, .none, .none, .none, .ref 355, .int 710 0, .int 215 0, .str "/claim/cut.py" 711] }),
  (357, { cls := .type "function", data := .func { name := "_law_tab", qualname := "_law_tab", params := zbq (zap 56), body := PySem.FuncBody.stmts (zbp (zap 56)), scope := zbi (zap 56), globals := 3, closure := [], defaults := .none, kwdefaults := .none, pyModule := .str "law_leastdeeds_k15_whole_steps_there_and_bac" 665, code := .ref 356 } }),
  (361, { cls := .type "code", data := .fields #[.str "_law_deed" 713, .str "_law_deed" 714, .str "/claim/cut.py" 715, .int 231 0, .int 3 0, .int 0 0, .int 0 0, .int 3 0, .ref 358, .bool true, .int 181 0, .ref 359, .none, .none, .none, .ref 360, .int 716 0, .int 231 0, .str "/claim/cut.py" 717] }),
  (362, { cls := .type "function", data := .func { name := "_law_deed", qualname := "_law_deed", params := zbq (zap 57), body := PySem.FuncBody.stmts (zbp (zap 57)), scope := zbi (zap 57), globals := 3, closure := [], defaults := .none, kwdefaults := .none, pyModule := .str "law_leastdeeds_k15_whole_steps_there_and_bac" 665, code := .ref 361 } }),
  (368, { cls := .type "code", data := .fields #[.str "_law_machine" 719, .str "_law_machine" 720, .str "/claim/cut.py" 721, .int 243 0, .int 4 0, .int 0 0, .int 0 0, .int 3 0, .ref 363, .bool true, .int 181 0, .ref 364, .none, .ref 365, .ref 366, .ref 367, .int 730 0, .int 243 0, .str "/claim/cut.py" 731] }),
  (369, { cls := .type "function", data := .func { name := "_law_machine", qualname := "_law_machine", params := zbq (zap 58), body := PySem.FuncBody.stmts (zbp (zap 58)), scope := zbi (zap 58), globals := 3, closure := [], defaults := .none, kwdefaults := .none, pyModule := .str "law_leastdeeds_k15_whole_steps_there_and_bac" 665, code := .ref 368 } }),
  (373, { cls := .type "code", data := .fields #[.str "_law_row" 733, .str "_law_row" 734, .str "/claim/cut.py" 735, .int 254 0, .int 3 0, .int 0 0, .int 0 0, .int 3 0, .ref 370, .bool true, .int 181 0, .ref 371, .none, .none, .none, .ref 372, .int 736 0, .int 254 0, .str "/claim/cut.py" 737] }),
  (374, { cls := .type "function", data := .func { name := "_law_row", qualname := "_law_row", params := zbq (zap 59), body := PySem.FuncBody.stmts (zbp (zap 59)), scope := zbi (zap 59), globals := 3, closure := [], defaults := .none, kwdefaults := .none, pyModule := .str "law_leastdeeds_k15_whole_steps_there_and_bac" 665, code := .ref 373 } }),
  (380, { cls := .type "code", data := .fields #[.str "_law_after" 739, .str "_law_after" 740, .str "/claim/cut.py" 741, .int 261 0, .int 2 0, .int 0 0, .int 0 0, .int 3 0, .ref 375, .bool true, .int 181 0, .ref 376, .none, .ref 377, .ref 378, .ref 379, .int 746 0, .int 261 0, .str "/claim/cut.py" 747] }),
  (381, { cls := .type "function", data := .func { name := "_law_after", qualname := "_law_after", params := zbq (zap 60), body := PySem.FuncBody.stmts (zbp (zap 60)), scope := zbi (zap 60), globals := 3, closure := [], defaults := .none, kwdefaults := .none, pyModule := .str "law_leastdeeds_k15_whole_steps_there_and_bac" 665, code := .ref 380 } }),
  (385, { cls := .type "code", data := .fields #[.str "_law_begins" 749, .str "_law_begins" 750, .str "/claim/cut.py" 751, .int 273 0, .int 1 0, .int 0 0, .int 0 0, .int 3 0, .ref 382, .bool true, .int 181 0, .ref 383, .none, .none, .none, .ref 384, .int 752 0, .int 273 0, .str "/claim/cut.py" 753] }),
  (386, { cls := .type "function", data := .func { name := "_law_begins", qualname := "_law_begins", params := zbq (zap 61), body := PySem.FuncBody.stmts (zbp (zap 61)), scope := zbi (zap 61), globals := 3, closure := [], defaults := .none, kwdefaults := .none, pyModule := .str "law_leastdeeds_k15_whole_steps_there_and_bac" 665, code := .ref 385 } }),
  (392, { cls := .type "code", data := .fields #[.str "_law_ends" 755, .str "_law_ends" 756, .str "/claim/cut.py" 757, .int 277 0, .int 2 0, .int 0 0, .int 0 0, .int 3 0, .ref 387, .bool true, .int 181 0, .ref 388, .none, .ref 389, .ref 390, .ref 391, .int 763 0, .int 277 0, .str "/claim/cut.py" 764] }),
  (393, { cls := .type "function", data := .func { name := "_law_ends", qualname := "_law_ends", params := zbq (zap 62), body := PySem.FuncBody.stmts (zbp (zap 62)), scope := zbi (zap 62), globals := 3, closure := [], defaults := .none, kwdefaults := .none, pyModule := .str "law_leastdeeds_k15_whole_steps_there_and_bac" 665, code := .ref 392 } }),
  (397, { cls := .type "code", data := .fields #[.str "_law_alike_pairs" 766, .str "_law_alike_pairs" 767, .str "/claim/cut.py" 768, .int 284 0, .int 2 0, .int 0 0, .int 0 0, .int 3 0, .ref 394, .bool true, .int 181 0, .ref 395, .none, .none, .none, .ref 396, .int 769 0, .int 284 0, .str "/claim/cut.py" 770] }),
  (398, { cls := .type "function", data := .func { name := "_law_alike_pairs", qualname := "_law_alike_pairs", params := zbq (zap 63), body := PySem.FuncBody.stmts (zbp (zap 63)), scope := zbi (zap 63), globals := 3, closure := [], defaults := .none, kwdefaults := .none, pyModule := .str "law_leastdeeds_k15_whole_steps_there_and_bac" 665, code := .ref 397 } }),
  (402, { cls := .type "code", data := .fields #[.str "_law_copied" 772, .str "_law_copied" 773, .str "/claim/cut.py" 774, .int 292 0, .int 1 0, .int 0 0, .int 0 0, .int 3 0, .ref 399, .bool true, .int 181 0, .ref 400, .none, .none, .none, .ref 401, .int 775 0, .int 292 0, .str "/claim/cut.py" 776] }),
  (403, { cls := .type "function", data := .func { name := "_law_copied", qualname := "_law_copied", params := zbq (zap 64), body := PySem.FuncBody.stmts (zbp (zap 64)), scope := zbi (zap 64), globals := 3, closure := [], defaults := .none, kwdefaults := .none, pyModule := .str "law_leastdeeds_k15_whole_steps_there_and_bac" 665, code := .ref 402 } }),
  (407, { cls := .type "code", data := .fields #[.str "_law_places" 778, .str "_law_places" 779, .str "/claim/cut.py" 780, .int 294 0, .int 4 0, .int 0 0, .int 0 0, .int 3 0, .ref 404, .bool true, .int 181 0, .ref 405, .none, .none, .none, .ref 406, .int 781 0, .int 294 0, .str "/claim/cut.py" 782] }),
  (408, { cls := .type "function", data := .func { name := "_law_places", qualname := "_law_places", params := zbq (zap 65), body := PySem.FuncBody.stmts (zbp (zap 65)), scope := zbi (zap 65), globals := 3, closure := [], defaults := .none, kwdefaults := .none, pyModule := .str "law_leastdeeds_k15_whole_steps_there_and_bac" 665, code := .ref 407 } }),
  (414, { cls := .type "code", data := .fields #[.str "_law_walk" 784, .str "_law_walk" 785, .str "/claim/cut.py" 786, .int 299 0, .int 4 0, .int 0 0, .int 0 0, .int 3 0, .ref 409, .bool true, .int 181 0, .ref 410, .none, .ref 411, .ref 412, .ref 413, .int 798 0, .int 299 0, .str "/claim/cut.py" 799] }),
  (415, { cls := .type "function", data := .func { name := "_law_walk", qualname := "_law_walk", params := zbq (zap 66), body := PySem.FuncBody.stmts (zbp (zap 66)), scope := zbi (zap 66), globals := 3, closure := [], defaults := .none, kwdefaults := .none, pyModule := .str "law_leastdeeds_k15_whole_steps_there_and_bac" 665, code := .ref 414 } }),
  (419, { cls := .type "code", data := .fields #[.str "law" 801, .str "law" 802, .str "/claim/cut.py" 803, .int 311 0, .int 1 0, .int 0 0, .int 0 0, .int 3 0, .ref 416, .bool true, .int 181 0, .ref 417, .none, .none, .none, .ref 418, .int 804 0, .int 311 0, .str "/claim/cut.py" 805] }),
  (420, { cls := .type "function", data := .func { name := "law", qualname := "law", params := zbq (zap 67), body := PySem.FuncBody.stmts (zbp (zap 67)), scope := zbi (zap 67), globals := 3, closure := [], defaults := .none, kwdefaults := .none, pyModule := .str "law_leastdeeds_k15_whole_steps_there_and_bac" 665, code := .ref 419 } })]
def kas : List PySem.Addr := [3, 114, 115, 121, 122, 128, 129, 135, 136, 142, 143, 147, 148, 152, 153, 159, 160, 166, 167, 173, 174, 180, 181, 182, 188, 189, 193, 194, 200, 201, 205, 206, 212, 213, 219, 220, 226, 227, 233, 234, 240, 241, 247, 248, 254, 255, 256, 262, 263, 269, 270, 274, 275, 281, 282, 288, 289, 295, 296, 302, 303, 309, 310, 316, 317, 323, 324, 330, 331, 337, 338, 344, 345, 351, 352, 356, 357, 361, 362, 368, 369, 373, 374, 380, 381, 385, 386, 392, 393, 397, 398, 402, 403, 407, 408, 414, 415, 419, 420]
theorem kase : ∀ P, kas = (kh P).map (·.1) := fun _ => by kernel_rfl
def kq : PySem.Program := PySem.W.view PySem.Challenge.pw_leastdeeds_k15_whole_steps_there_and_bac [1, 2, 3, 4, 5, 6, 8, 10, 11, 12, 13, 14, 15, 16, 17, 18, 19, 20, 21, 22, 23, 24, 25, 26, 27, 28, 29, 30, 31, 32, 33, 35, 36, 37, 38, 39, 40, 41, 42, 43, 45, 46, 47, 48, 49, 50, 52, 53, 54, 55, 56, 57, 58, 59, 60, 61, 62, 63, 64, 65, 66, 67]
abbrev kH : PySem.W.Hook := PySem.W.kHook kh kas kase
def zmw : List PySem.Str := ["SORTS", "NEW_WORDS"]
abbrev krow := PySem.Challenge.rw_leastdeeds_k15_whole_steps_there_and_bac.row
abbrev kX : PySem.Shared -> Bool := fun s => PySem.W.xlAt kq [] s && PySem.W.recOk (PySem.W.RowW.records krow.toRowW) s
def kR (w : PySem.World) (os : PySem.OsState) := (HD.zjl PySem.treeTable PySem.Challenge.pw_leastdeeds_k15_whole_steps_there_and_bac w 11 (some (.ref 6)) 6298 (HD.zt4 w.params os) (PySem.W.topStub PySem.Challenge.pw_leastdeeds_k15_whole_steps_there_and_bac)).map fun s => HD.ztp PySem.Challenge.pw_leastdeeds_k15_whole_steps_there_and_bac kq zmw kX true (PySem.W.boot_heap w.params) (fun s => kas.map s.heap.get?) s.abs
def kG (w : PySem.World) := some (true, PySem.W.openGood kq zmw, (kh w.params).map fun p => some p.2)
theorem kRs : kR = kR := rfl
theorem kGs : kG = kG := rfl
name_quick kq15 for kR by kRs
name_quick kg15 for kG by kGs
theorem zx4 : ∀ (w : PySem.World) (os : PySem.OsState), PySem.W.Fast.kq15 (w.withFollow "special-get-raises" false) os = PySem.W.Fast.kg15 (w.withFollow "special-get-raises" false) := fun w os => by kernel_rfl
theorem z0e : ∀ (w : PySem.World) (os : PySem.OsState), PySem.W.Fast.kq15 (w.withFollow "special-get-raises" true) os = PySem.W.Fast.kg15 (w.withFollow "special-get-raises" true) := fun w os => by kernel_rfl
theorem kl : ∀ (w : PySem.World) (os : PySem.OsState), kR w os = kG w := fun w os => by
  rw [PySem.W.Fast.kq15_eq, PySem.W.Fast.kg15_eq]
  exact PySem.W.byRow2 "special-get-raises" (P := fun w => PySem.W.Fast.kq15 w os = PySem.W.Fast.kg15 w) (fun w => zx4 w os) (fun w => z0e w os) w
theorem kleft : PySem.W.LeftO krow.prog kq zmw kX kH.obs kH.val 6298 := HD.zqy (m0 := 11) (ann := some (.ref 6)) (PySem.W.boot_open (by rfl) (by decide) (fun _ => rfl)) (fun w => by kernel_rfl) kl
end K15
namespace L2
open PySem PySem.Spec PyProof.Rows
abbrev Key := Sum Int Str
def zpm : Key -> Value -> Bool
  | .inl k, v => Value.isInt k v
  | .inr x, v => Value.isStrOf x v
def keyH (w : World) : Key -> Int
  | .inl k => hashInt k
  | .inr x => hashStr w x
theorem zdo : ∀ {k : Key} {v : Value}, zpm k v = true -> (∃ i t, k = Sum.inl i /\ v = Value.int i t) \/ (∃ x t, k = Sum.inr x /\ v = Value.str x t)
  | .inl i, v, h => by
    obtain ⟨t, e⟩ := Value.isInt_shape (k := i) (v := v) h
    exact .inl ⟨i, t, rfl, e⟩
  | .inr x, v, h => by
    obtain ⟨t, e⟩ := Value.isStrOf_shape (x := x) (v := v) h
    exact .inr ⟨x, t, rfl, e⟩
theorem zi5 (x : Str) (t : Tok) : zpm (.inr x) (.str x t) = true := by simp [zpm, Value.isStrOf]
theorem key_ll (a b : Int) : decide ((Sum.inl a : Key) = Sum.inl b) = (a == b) := by
  by_cases e : a = b
  · subst e; simp
  · have h : ¬ (Sum.inl a : Key) = Sum.inl b := fun q => e (Sum.inl.inj q)
    rw [decide_eq_false h]
    exact (beq_eq_false_iff_ne.mpr e).symm
theorem key_rr (a b : Str) : decide ((Sum.inr a : Key) = Sum.inr b) = decide (a = b) := by
  by_cases e : a = b
  · subst e; simp
  · have h : ¬ (Sum.inr a : Key) = Sum.inr b := fun q => e (Sum.inr.inj q)
    rw [decide_eq_false h, decide_eq_false e]
theorem key_lr (a : Int) (b : Str) : decide ((Sum.inl a : Key) = Sum.inr b) = false := decide_eq_false (fun q => nomatch q)
theorem key_rl (a : Str) (b : Int) : decide ((Sum.inr a : Key) = Sum.inl b) = false := decide_eq_false (fun q => nomatch q)
def zjo (prog : Program) (w : World) : PySem.KeyKind prog w Key where
  is := zpm
  hash := keyH w
  inj := fun v a b ha hb => by
    rcases zdo ha with ⟨i, t, rfl, rfl⟩ | ⟨x, t, rfl, rfl⟩
    · rcases zdo hb with ⟨j, u, rfl, e⟩ | ⟨y, u, rfl, e⟩
      · injection e with e1 _; rw [e1]
      · exact nomatch e
    · rcases zdo hb with ⟨j, u, rfl, e⟩ | ⟨y, u, rfl, e⟩
      · exact nomatch e
      · injection e with e1 _; rw [e1]
  byValue := fun k v h => by
    rcases zdo h with ⟨i, t, rfl, rfl⟩ | ⟨x, t, rfl, rfl⟩ <;> rfl
  pyHash := fun hv h => by
    rcases zdo hv with ⟨i, t, rfl, rfl⟩ | ⟨x, t, rfl, rfl⟩
    · exact wpAny_pyHash_int h
    · exact wpAny_pyHash_str h
  eqBool := fun hu hv h => by
    rcases zdo hu with ⟨i, t, rfl, rfl⟩ | ⟨x, t, rfl, rfl⟩
    · rcases zdo hv with ⟨j, u, rfl, rfl⟩ | ⟨y, u, rfl, rfl⟩
      · rw [key_ll] at h; exact wpAny_eqBool_int h
      · rw [key_lr] at h; exact SeqAt.EqAt.int_str i t y u _ _ _ _ h
    · rcases zdo hv with ⟨j, u, rfl, rfl⟩ | ⟨y, u, rfl, rfl⟩
      · rw [key_rl] at h; exact SeqAt.EqAt.str_int x t j u _ _ _ _ h
      · rw [key_rr] at h; exact wpAny_eqBool_str h
  «strs» := fun k x t v h => by
    rcases zdo h with ⟨i, u, rfl, e⟩ | ⟨y, u, rfl, e⟩
    · exact nomatch e
    · injection e with e1 _
      subst e1
      cases v <;> rfl
end L2
namespace L2
open PySem PySem.Spec PyProof.Rows
inductive V where
  | non | bl (b : Bool) | int (i : Int) | str (x : Str) | byt (b : Array UInt8) | flt (b : UInt64) | ref (a : Addr) | ty (n : String)
  deriving DecidableEq
def RelV : V -> Value -> Prop
  | .non, u => u = Value.none
  | .bl b, u => u = Value.bool b
  | .int i, u => ∃ t, u = Value.int i t
  | .str x, u => ∃ t, u = Value.str x t
  | .byt b, u => ∃ t, u = Value.bytes b t
  | .flt b, u => ∃ t, u = Value.float b t
  | .ref a, u => u = Value.ref a
  | .ty n, u => u = Value.type n
abbrev Vals : List V -> List Value -> Prop := Paired RelV
theorem Vals.length {xs : List V} {us : List Value} (r : Vals xs us) : xs.length = us.length := Paired.length r
theorem Vals.get : ∀ {xs : List V} {us : List Value} {i : Nat} {x : V}, Vals xs us -> xs[i]? = some x -> ∃ u, us[i]? = some u /\ RelV x u
  | _, _, _, _, .nil, e => by simp at e
  | _, _, 0, _, .cons r _, e => by simp at e; subst e; exact ⟨_, rfl, r⟩
  | _, _, i + 1, x, .cons _ t, e => by
    obtain ⟨u, h1, h2⟩ := Vals.get (i := i) (x := x) t (by simpa using e)
    exact ⟨u, by simpa using h1, h2⟩
theorem Vals.set {x : V} {u : Value} (r : RelV x u) : ∀ {xs : List V} {us : List Value} (i : Nat), Vals xs us -> Vals (xs.set i x) (us.set i u)
  | _, _, _, .nil => .nil
  | _, _, 0, .cons _ t => .cons r t
  | _, _, i + 1, .cons q t => .cons q (Vals.set r i t)
theorem Vals.append : ∀ {xs ys : List V} {us ws : List Value}, Vals xs us -> Vals ys ws -> Vals (xs ++ ys) (us ++ ws)
  | _, _, _, _, .nil, s => s
  | _, _, _, _, .cons r t, s => .cons r (Vals.append t s)
theorem Vals.take : ∀ {xs : List V} {us : List Value} (n : Nat), Vals xs us -> Vals (xs.take n) (us.take n)
  | _, _, 0, _ => .nil
  | _, _, _ + 1, .nil => .nil
  | _, _, n + 1, .cons r t => .cons r (Vals.take n t)
theorem Vals.drop : ∀ {xs : List V} {us : List Value} (n : Nat), Vals xs us -> Vals (xs.drop n) (us.drop n)
  | _, _, 0, r => r
  | _, _, _ + 1, .nil => .nil
  | _, _, n + 1, .cons _ t => Vals.drop n t
def RelO : Option V -> Option Value -> Prop
  | some v, some u => RelV v u
  | none, none => True
  | _, _ => False
def KV {κ : Type} : List (κ × V) -> List (κ × Value) -> Prop := Paired fun (p : κ × V) (q : κ × Value) => p.1 = q.1 /\ RelV p.2 q.2
def kV : Key -> V
  | .inl i => .int i
  | .inr x => .str x
inductive HO where
  | lst (xs : List V)
  | tup (xs : List V)
  | dK (kvs : List (Key × V)) | dT (kvs : List (List Key × V))
  | set (S : Int -> Bool) (n : Nat)
  | ins (C dx : Addr) (fs : List (Str × V))
  | own (x : Addr)
  | xd (fs : List (Str × V))
  | met (f x : Addr)
  | rng (lo hi : Int)
  | frz (o : Obj) (u : HO)
  | tbl (ps : Array Value)
  | ext (φ : Heap -> Prop)
abbrev Hp := Addr -> Option HO
def upd (H : Hp) (a : Addr) (o : HO) : Hp := fun b => if b = a then some o else H b
theorem zc5 {H : Hp} {a : Addr} {o : HO} : upd H a o a = some o := by unfold upd; rw [if_pos rfl]
theorem zbd {H : Hp} {a b : Addr} {o : HO} (h : b ≠ a) : upd H a o b = H b := by unfold upd; rw [if_neg h]
theorem zbs {H : Hp} {a b : Addr} {o : HO} (h : H a = some o) (h' : H b = none) : a ≠ b := by
  intro e; subst e; rw [h] at h'; cases h'
section
variable (P : Program) (w : World)
def zdq (H : Hp) (h : Heap) (a : Addr) : HO -> Prop
  | .lst xs => xs.length ≤ sizeLine /\ ∃ (its : List Value) (n : Nat), Vals xs its /\ h.get? a = some { cls := .type "list", data := .seq its.toArray n }
  | .tup xs => xs.length ≤ sizeLine /\ ∃ its : List Value, Vals xs its /\ IsTup h a its.toArray
  | .dK kvs => kvs.length ≤ sizeLine /\ (a == sysModules) = false /\ ∃ vs, KV kvs vs /\ h.DictOf (zjo P w) a vs
  | .dT kvs => kvs.length ≤ sizeLine /\ (a == sysModules) = false /\ ∃ xs : List (List Key × Addr × Value),
      Paired (fun (p : List Key × V) (q : List Key × Addr × Value) => p.1 = q.1 /\ H q.2.1 = some (.tup (p.1.map kV)) /\ RelV p.2 q.2.2) kvs xs /\
      ∃ o es ep, h.get? a = some o /\ o.ExactDict /\ o.data = .dict es ep /\ es.toList = xs.map (entryOfKey (tupleKind (zjo P w))) /\ (xs.map (·.1)).Nodup
  | .set S n => h.SetOf (intKind P w) a S n
  | .ins C dx fs => H dx = some (.own a) /\ fs.length ≤ 1000 /\ dx ≠ a /\ h.get? a = some (PySem.W.instObj C dx) /\
      ∃ mA, h.Ns1 dx mA /\ (∀ f, RelO (fs.lookup f) (mA f)) /\ PySem.Within mA (fs.map (·.1))
  | .own _ => ∃ o, h.get? a = some o
  | .xd fs => ∃ mA, h.Ns1 a mA /\ ∀ f, RelO (fs.lookup f) (mA f)
  | .rng lo hi => ∃ t u v, h.get? a = some { cls := .type "range", data := .fields #[.int lo t, .int hi u, .int 1 v] }
  | .frz o u => h.get? a = some o /\ zdq H h a u
  | .tbl ps => h.get? a = some { cls := .none, data := .fields ps }
  | .met f x => h.get? a = some (PySem.W.methodObj (.ref f) (.ref x))
  | .ext φ => φ h /\ (∃ o, h.get? a = some o) /\ ∀ h1 h2 : Heap, φ h1 -> (∀ o, h1.get? a = some o -> h2.get? a = some o) -> φ h2
def HOk (H : Hp) (h : Heap) : Prop := ∀ a o, H a = some o -> zdq P w H h a o
end
section
variable {P : Program} {w : World} {H H' : Hp} {h h' : Heap} {a : Addr} {o : HO}
theorem zdq.lt (x : zdq P w H h a o) : a < h.objs.size := by
  cases o with
  | lst xs => obtain ⟨_, _, _, _, e⟩ := x; exact Heap.lt_size e
  | tup xs => obtain ⟨_, _, _, p⟩ := x; exact p.lt
  | dK kvs => obtain ⟨_, _, _, _, o, _, _, e, _⟩ := x; exact Heap.lt_size e
  | dT kvs => obtain ⟨_, _, _, _, o, _, _, e, _⟩ := x; exact Heap.lt_size e
  | set S n => obtain ⟨o, _, _, _, e, _⟩ := x; exact Heap.lt_size e
  | ins C dx fs => obtain ⟨_, _, _, e, _⟩ := x; exact Heap.lt_size e
  | own y => obtain ⟨_, e⟩ := x; exact Heap.lt_size e
  | xd fs => obtain ⟨_, ⟨_, _, _, e, _⟩, _⟩ := x; exact Heap.lt_size e
  | rng lo hi => obtain ⟨_, _, _, e⟩ := x; exact Heap.lt_size e
  | frz ob u => obtain ⟨e, _⟩ := x; exact Heap.lt_size e
  | tbl ps => exact Heap.lt_size (show h.get? a = some _ from x)
  | met f y => exact Heap.lt_size (show h.get? a = some _ from x)
  | ext φ => obtain ⟨_, ⟨_, e⟩, _⟩ := x; exact Heap.lt_size e
theorem Paired.mapP {α β : Type} {F G : α -> β -> Prop} : ∀ {l₁ : List α} {l₂ : List β}, Paired F l₁ l₂ -> (∀ a b, F a b -> G a b) -> Paired G l₁ l₂
  | _, _, .nil, _ => .nil
  | _, _, .cons r t, f => .cons (f _ _ r) (Paired.mapP t f)
theorem zdq.stay (x : zdq P w H h a o) (k : ∀ b u, (b = a \/ H b = some (.own a)) -> h.get? b = some u -> h'.get? b = some u)
    (ho : ∀ b, H b = some (.own a) -> H' b = some (.own a)) (ht : ∀ b xs, H b = some (.tup xs) -> H' b = some (.tup xs)) : zdq P w H' h' a o := by
  induction o with
  | lst xs => obtain ⟨z, its, n, r, e⟩ := x; exact ⟨z, its, n, r, k _ _ (.inl rfl) e⟩
  | tup xs => obtain ⟨z, its, r, ob, e, c⟩ := x; exact ⟨z, its, r, ob, k _ _ (.inl rfl) e, c⟩
  | dK kvs => obtain ⟨z, y, vs, r, ob, es, ep, e, c⟩ := x; exact ⟨z, y, vs, r, ob, es, ep, k _ _ (.inl rfl) e, c⟩
  | dT kvs =>
    obtain ⟨z, y, xs, r, ob, es, ep, e, c⟩ := x
    exact ⟨z, y, xs, Paired.mapP r fun p q z => ⟨z.1, ht _ _ z.2.1, z.2.2⟩, ob, es, ep, k _ _ (.inl rfl) e, c⟩
  | set S n => obtain ⟨ob, es, ep, t, e, c⟩ := x; exact ⟨ob, es, ep, t, k _ _ (.inl rfl) e, c⟩
  | ins C dx fs =>
    obtain ⟨d, z, ne, e, mA, ⟨od, es, ep, e2, c⟩, r⟩ := x
    exact ⟨ho _ d, z, ne, k _ _ (.inl rfl) e, mA, ⟨od, es, ep, k _ _ (.inr d) e2, c⟩, r⟩
  | own y => obtain ⟨ob, e⟩ := x; exact ⟨ob, k _ _ (.inl rfl) e⟩
  | xd fs => obtain ⟨mA, ⟨od, es, ep, e, c⟩, r⟩ := x; exact ⟨mA, ⟨od, es, ep, k _ _ (.inl rfl) e, c⟩, r⟩
  | rng lo hi => obtain ⟨t, u, v, e⟩ := x; exact ⟨t, u, v, k _ _ (.inl rfl) e⟩
  | frz ob u ih => obtain ⟨e, q⟩ := x; exact ⟨k _ _ (.inl rfl) e, ih q⟩
  | tbl ps =>
    have e : h.get? a = some { cls := .none, data := .fields ps } := x
    show h'.get? a = some { cls := .none, data := .fields ps }
    exact k a _ (.inl rfl) e
  | met f y =>
    have e : h.get? a = some (PySem.W.methodObj (.ref f) (.ref y)) := x
    show h'.get? a = some (PySem.W.methodObj (.ref f) (.ref y))
    exact k a _ (.inl rfl) e
  | ext φ => obtain ⟨p, ⟨o, e⟩, st⟩ := x; exact ⟨st _ _ p fun o q => k _ _ (.inl rfl) q, ⟨o, k _ _ (.inl rfl) e⟩, st⟩
theorem HOk.lt (x : HOk P w H h) (e : H a = some o) : a < h.objs.size := (x a o e).lt
theorem HOk.fresh (x : HOk P w H h) (e : h.objs.size ≤ a) : H a = none := by
  cases q : H a with
  | none => rfl
  | some u => exact absurd (Nat.lt_of_lt_of_le (x.lt q) e) (Nat.lt_irrefl _)
theorem HOk.kept (x : HOk P w H h) (k : ∀ b u, h.get? b = some u -> h'.get? b = some u) : HOk P w H h' := fun a o e =>
  (x a o e).stay (fun b u _ q => k b u q) (fun _ q => q) fun _ _ q => q
theorem HOk.laid (x : HOk P w H h) (k : ∀ b u, h.get? b = some u -> h'.get? b = some u) (hp : h.objs.size ≤ a) (new : zdq P w (upd H a o) h' a o) : HOk P w (upd H a o) h' := fun b u e => by
  have hn := x.fresh hp
  by_cases hb : b = a
  · subst hb; rw [zc5] at e; cases e; exact new
  · rw [zbd hb] at e
    exact (x b u e).stay (fun c v _ q => k c v q) (fun c q => by rw [zbd (zbs q hn)]; exact q) fun c xs q => by rw [zbd (zbs q hn)]; exact q
end
def Rd (H : Hp) (a : Addr) (u : HO) : Prop := H a = some u \/ ∃ o, H a = some (.frz o u)
theorem Rd.of {H : Hp} {a : Addr} {u : HO} (h : H a = some u) : Rd H a u := .inl h
theorem Rd.ok {P : Program} {w : World} {H : Hp} {h : Heap} {a : Addr} {u : HO} (r : Rd H a u) (x : HOk P w H h) : zdq P w H h a u := by
  rcases r with r | ⟨o, r⟩
  · exact x a u r
  · obtain ⟨_, q⟩ := x a _ r
    exact q
def Mut : Option HO -> Prop
  | some (.lst _) => True
  | some (.dK _) => True
  | some (.dT _) => True
  | some (.set _ _) => True
  | some (.ins _ _ _) => True
  | some (.ext _) => True
  | _ => False
section
variable {P : Program} {w : World} {H : Hp} {h h' : Heap} {x e : Addr} {o' : HO}
theorem HOk.write (ok : HOk P w H h) (mu : Mut (H x)) (he : e = x \/ H e = some (.own x)) (k : ∀ b u, b ≠ e -> h.get? b = some u -> h'.get? b = some u) (heo : ∃ u, h'.get? e = some u)
    (new : zdq P w (upd H x o') h' x o') : HOk P w (upd H x o') h' := fun b u q => by
  have nown : ∀ c y, H c = some (.own y) -> c ≠ x := fun c y r z => by subst z; rw [r] at mu; exact mu
  have ntup : ∀ c xs, H c = some (.tup xs) -> c ≠ x := fun c xs r z => by subst z; rw [r] at mu; exact mu
  by_cases hb : b = x
  · subst hb; rw [zc5] at q; cases q; exact new
  · rw [zbd hb] at q
    by_cases hbe : b = e
    · have q' : H b = some (.own x) := by
        rcases he with z | z
        · exact absurd (hbe.trans z) hb
        · rw [hbe]; exact z
      rw [q] at q'; cases q'
      obtain ⟨v, hv⟩ := heo
      exact ⟨v, by rw [hbe]; exact hv⟩
    · refine (ok b u q).stay (fun c v hc r => k c v ?_ r) (fun c r => by rw [zbd (nown c b r)]; exact r) fun c xs r => by rw [zbd (ntup c xs r)]; exact r
      rcases hc with rfl | hc
      · exact hbe
      · rintro rfl
        rcases he with z | z
        · exact nown c b hc z
        · rw [hc] at z; cases z; exact hb rfl
end
structure Un (fs ex : List Addr) (H H' : Hp) (h h' : Heap) : Prop where
  keep : ∀ b o, h.get? b = some o -> H b = none -> b ∉ fs -> b ∉ ex -> h'.get? b = some o
  slot : ∀ b o, h.get? b = some o -> H b = none -> b ∈ fs -> b ∉ ex -> ∃ sl, h'.get? b = some { o with slots := sl }
  free : ∀ b o, h.get? b = some o -> H b = none -> b ∉ ex -> H' b = none
  there : ∀ b o, h.get? b = some o -> b ∉ ex -> ∃ o', h'.get? b = some o'
  tups : ∀ b xs, H b = some (.tup xs) -> H' b = some (.tup xs)
  frzs : ∀ b o u, H b = some (.frz o u) -> H' b = some (.frz o u)
  tbls : ∀ b ps, H b = some (.tbl ps) -> ∃ more, H' b = some (.tbl (ps ++ more))
section
variable {fs fs' ex ex' : List Addr} {H H1 H2 : Hp} {h h1 h2 h' : Heap} {a x e : Addr} {o : HO}
theorem Un.any (u : Un fs ex H H1 h h1) {b : Addr} {ob : Obj} (q : h.get? b = some ob) (n : H b = none) (hx : b ∉ ex) : ∃ sl, h1.get? b = some { ob with slots := sl } := by
  by_cases hb : b ∈ fs
  · exact u.slot b ob q n hb hx
  · exact ⟨ob.slots, u.keep b ob q n hb hx⟩
theorem Un.trans (a : Un fs ex H H1 h h1) (b : Un fs ex H1 H2 h1 h2) : Un fs ex H H2 h h2 where
  keep := fun c ob q n hc hx => b.keep c ob (a.keep c ob q n hc hx) (a.free c ob q n hx) hc hx
  slot := fun c ob q n hc hx => by
    obtain ⟨sl, e1⟩ := a.slot c ob q n hc hx
    obtain ⟨sl', e2⟩ := b.slot c _ e1 (a.free c ob q n hx) hc hx
    exact ⟨sl', e2⟩
  free := fun c ob q n hx => by
    obtain ⟨o', e1⟩ := a.there c ob q hx
    exact b.free c o' e1 (a.free c ob q n hx) hx
  there := fun c ob q hx => by
    obtain ⟨o', e1⟩ := a.there c ob q hx
    exact b.there c o' e1 hx
  tups := fun c xs q => b.tups c xs (a.tups c xs q)
  frzs := fun c ob xs q => b.frzs c ob xs (a.frzs c ob xs q)
  tbls := fun c ps q => by
    obtain ⟨m1, e1⟩ := a.tbls c ps q
    obtain ⟨m2, e2⟩ := b.tbls c _ e1
    exact ⟨m1 ++ m2, by rw [e2, Array.append_assoc]⟩
theorem Un.kept (k : ∀ b u, h.get? b = some u -> h'.get? b = some u) : Un fs ex H H h h' :=
  ⟨fun b ob q _ _ _ => k b ob q, fun b ob q _ _ _ => ⟨ob.slots, k b ob q⟩, fun _ _ _ n _ => n, fun b ob q _ => ⟨ob, k b ob q⟩, fun _ _ q => q, fun _ _ _ q => q, fun _ ps q => ⟨#[], by rw [q]; simp⟩⟩
theorem Un.refl : Un fs ex H H h h := Un.kept fun _ _ q => q
theorem Un.laid (k : ∀ b u, h.get? b = some u -> h'.get? b = some u) (hp : h.objs.size ≤ a) (hn : H a = none) : Un fs ex H (upd H a o) h h' where
  keep := fun b u q _ _ _ => k b u q
  slot := fun b u q _ _ _ => ⟨u.slots, k b u q⟩
  free := fun b u q n _ => by rw [zbd (Nat.ne_of_lt (Nat.lt_of_lt_of_le (Heap.lt_size q) hp))]; exact n
  there := fun b u q _ => ⟨u, k b u q⟩
  tups := fun b xs q => by rw [zbd (zbs q hn)]; exact q
  frzs := fun b u xs q => by rw [zbd (zbs q hn)]; exact q
  tbls := fun b ps q => ⟨#[], by rw [zbd (zbs q hn), q]; simp⟩
theorem Un.write (mu : Mut (H x)) (he : e = x \/ H e = some (.own x)) (k : ∀ b u, b ≠ e -> h.get? b = some u -> h'.get? b = some u) (heo : ∃ u, h'.get? e = some u) : Un fs ex H (upd H x o) h h' := by
  have hx : ∀ b, H b = none -> b ≠ x := fun b n z => by subst z; rw [n] at mu; exact mu
  have hb : ∀ b, H b = none -> b ≠ e := fun b n z => by
    subst z
    rcases he with r | r
    · exact hx b n r
    · rw [n] at r; cases r
  have hm : ∀ b u, H b = some u -> ¬ Mut (some u) -> b ≠ x := fun b u q nm z => by subst z; rw [q] at mu; exact nm mu
  refine ⟨fun b u q n _ _ => k b u (hb b n) q, fun b u q n _ _ => ⟨u.slots, k b u (hb b n) q⟩, fun b u q n _ => by rw [zbd (hx b n)]; exact n, fun b u q _ => ?_,
    fun b xs q => by rw [zbd (hm b _ q fun z => z)]; exact q, fun b u xs q => by rw [zbd (hm b _ q fun z => z)]; exact q, fun b ps q => ⟨#[], by rw [zbd (hm b _ q fun z => z), q]; simp⟩⟩
  by_cases hbe : b = e
  · subst hbe; exact heo
  · exact ⟨u, k b u hbe q⟩
theorem Un.mono (u : Un fs ex H H1 h h1) (hs : ∀ b ∈ fs, b ∈ fs') (hx : ∀ b ∈ ex, b ∈ ex') : Un fs' ex' H H1 h h1 :=
  ⟨fun b ob q n hb he => u.keep b ob q n (fun z => hb (hs b z)) fun z => he (hx b z), fun _ _ q n _ he => u.any q n fun z => he (hx _ z), fun b ob q n he => u.free b ob q n fun z => he (hx b z), fun b ob q he => u.there b ob q fun z => he (hx b z), u.tups, u.frzs, u.tbls⟩
end
def trk (h : Heap) (H : Hp) : List Addr := (List.range h.objs.size).filter fun a => (H a).isSome
def zj6 (h : Heap) (H : Hp) : Heap := PySem.W.hideAll h (trk h H)
theorem zv5 (h : Heap) (H : Hp) : (zj6 h H).objs.size = h.objs.size := PySem.W.hideAll_size _ _
theorem zx6 {h : Heap} {H : Hp} {b : Addr} {o : Obj} (e : h.get? b = some o) (n : H b = none) : (zj6 h H).get? b = some o :=
  PySem.W.hideAll_get _ e fun hm => by
    have q : (H b).isSome = true := (List.mem_filter.mp hm).2
    rw [n] at q; simp at q
theorem z0d {h : Heap} {H : Hp} {b : Addr} {o : Obj} (e : (zj6 h H).get? b = some o) : h.get? b = some o /\ H b = none := by
  have e' : h.get? b = some o := PySem.W.of_hideAll (trk h H) e
  refine ⟨e', ?_⟩
  cases q : H b with
  | none => rfl
  | some x =>
    have hm : b ∈ trk h H := List.mem_filter.mpr ⟨List.mem_range.mpr (Heap.lt_size e'), by simp [q]⟩
    have z : (zj6 h H).get? b = none := PySem.W.hideAll_none (trk h H) hm
    rw [z] at e; cases e
def z0x (g h : Heap) (L : Addr) : List (Addr × Obj) := (List.range h.objs.size).filterMap fun a => if a = L \/ (g.get? a).isSome = true then none else (h.get? a).map fun o => (a, o)
def rest (g h : Heap) (L d : Addr) : List (Addr × Obj) := (z0x g h L).filter fun p => decide (p.1 ≠ d)
end L2
namespace L2
open PySem PySem.Spec PyProof.Rows
structure Mod (K : PySem.W.Frag) (mg : Str -> Option Value) (base : Heap) : Prop where
  kin : K.In base
  glob : base.Ns mainGlobals mg
  blt : ∃ mb, base.Ns builtinsNs mb /\ ∀ x : Str, x ≠ "__name__" -> mb x = bootBuiltins x
  nolimit : base.NoLimit
structure Cx where
  prog : Program
  w : World
  K : PySem.W.Frag
  mg : Str -> Option Value
  base : Heap
  A : Around
  N : List Str
  s₀ : Shared
  H₀ : Hp
  env : Env
  outer : List Env
  stack : List Env
  ex : List Addr
  fn : Str -> Bool
  calm : Bool
  pn : List (Addr × Obj)
  xe : Value -> Shared -> Prop
def frs (l : List Env) : List Addr := l.filterMap (·.frame)
abbrev Cx.fs (X : Cx) : List Addr := frs X.outer
def Vis (sc : Scope) (x : Str) : Prop := sc.names.lookup x = some .local \/ sc.names.lookup x = some .cell \/ sc.names.lookup x = some .free
def Loc (sc : Scope) (x : Str) : Prop := sc.names.lookup x = some .local \/ sc.names.lookup x = some .cell
def Look (env : Env) (h : Heap) (m : Str -> Option Value) (x : Str) (u : Value) : Prop :=
  (env.kindOf x = some .local /\ m x = some u) \/ ((env.kindOf x = some .cell \/ env.kindOf x = some .free) /\ ∃ c, env.cells.lookup x = some c /\ h.IsCell c (some u))
structure Cx.Ok (X : Cx) : Prop where
  mod : Mod X.K X.mg X.base
  kind : X.env.scope.kind = .function
  glob : X.env.globals = mainGlobals
  blt : X.env.builtins = builtinsNs
  above : X.s₀.heap.objs.size ≤ X.env.locals
  inj : ∀ x y c, X.env.cells.lookup x = some c -> X.env.cells.lookup y = some c -> x = y
  has : ∀ x, (X.env.kindOf x = some .cell \/ X.env.kindOf x = some .free) -> ∃ c, X.env.cells.lookup x = some c
  cab : ∀ x c, X.fn x = true -> X.env.cells.lookup x = some c -> X.s₀.heap.objs.size ≤ c
  hd : X.calm = true -> X.A.handled = none
  frames : X.A.frames = some X.stack
  stk : X.stack = X.outer \/ (X.stack = X.env :: X.outer /\ X.env.frame = some X.env.locals)
  exf : ∀ b ∈ X.ex, b ≠ X.env.locals /\ ∀ x c, X.env.cells.lookup x = some c -> c ≠ b
  bs : ∀ b o, X.base.get? b = some o -> X.s₀.heap.get? b = some o /\ X.H₀ b = none
  bsz : X.base.objs.size ≤ X.s₀.heap.objs.size
  noex : ∀ b o, X.base.get? b = some o -> b ∉ X.ex
  exfs : ∀ b ∈ X.ex, b ∉ X.fs
  funs : X.s₀.heap.FunFrames X.base X.outer
  frf : ∀ b ∈ X.fs, X.H₀ b = none
structure Inv (X : Cx) (pins : List (Addr × Obj)) (σ : List (Option V)) (H : Hp) (s : Shared) : Prop where
  ok : X.Ok
  os : s.os = X.s₀.os
  bare : AllBare s.gens
  base : Un X.fs X.ex X.H₀ H X.s₀.heap s.heap
  loc : ∃ m, s.heap.Ns X.env.locals m /\ ∀ (i : Nat) (x : Str) (v : V), X.N[i]? = some x -> σ[i]? = some (some v) -> Vis X.env.scope x -> ∃ u, RelV v u /\ Look X.env s.heap m x u
  cell : ∀ x c, X.env.cells.lookup x = some c -> ∃ v, s.heap.IsCell c v
  free : H X.env.locals = none
  freeC : ∀ x c, X.env.cells.lookup x = some c -> H c = none
  pin : ∀ p ∈ X.pn ++ pins, s.heap.get? p.1 = some p.2 /\ H p.1 = none /\ p.1 ≠ X.env.locals /\ p.1 ∉ X.fs /\ ∀ v, p.2.data ≠ .cell v
  hok : HOk X.prog X.w H s.heap
  len : σ.length = X.N.length
section
variable {X : Cx} {pins : List (Addr × Obj)} {σ : List (Option V)} {H H' : Hp} {s : Shared} {h' : Heap}
theorem Cx.Ok.nofr (ok : X.Ok) {b : Addr} {o : Obj} (e : X.base.get? b = some o) : b ∉ X.fs := fun hb => by
  have := (ok.funs.mem hb).1
  rw [e] at this; cases this
theorem Inv.bs (I : Inv X pins σ H s) : ∀ b o, X.base.get? b = some o -> s.heap.get? b = some o /\ H b = none := fun b o e =>
  ⟨I.base.keep b o (I.ok.bs b o e).1 (I.ok.bs b o e).2 (I.ok.nofr e) (I.ok.noex b o e), I.base.free b o (I.ok.bs b o e).1 (I.ok.bs b o e).2 (I.ok.noex b o e)⟩
theorem Inv.bk (I : Inv X pins σ H s) : ∀ b o, X.base.get? b = some o -> s.heap.get? b = some o := fun b o e => (I.bs b o e).1
theorem Inv.mod (I : Inv X pins σ H s) : Mod X.K X.mg X.base := I.ok.mod
theorem Inv.kIn (I : Inv X pins σ H s) : X.K.In s.heap := I.ok.mod.kin.keeps I.bk
theorem Inv.nolimit (I : Inv X pins σ H s) : s.heap.NoLimit := I.ok.mod.nolimit.keeps I.bk
theorem Inv.lt (I : Inv X pins σ H s) : X.env.locals < s.heap.objs.size := let ⟨_, hn, _⟩ := I.loc; hn.lt
theorem Inv.sz (I : Inv X pins σ H s) : X.s₀.heap.objs.size ≤ s.heap.objs.size := Nat.le_trans I.ok.above (Nat.le_of_lt I.lt)
theorem Inv.nofs (I : Inv X pins σ H s) {a : Addr} (h : s.heap.objs.size ≤ a) : a ∉ X.fs := fun hb => by
  obtain ⟨_, o, ho, _⟩ := I.ok.funs.mem hb
  exact absurd (Nat.lt_of_lt_of_le (Heap.lt_size ho) (Nat.le_trans I.sz h)) (Nat.lt_irrefl _)
theorem Inv.cne (I : Inv X pins σ H s) : ∀ x c, X.env.cells.lookup x = some c -> c ≠ X.env.locals := fun x c e z => by
  obtain ⟨v, o, ho, hd⟩ := I.cell x c e
  obtain ⟨m, ⟨o', es, ep, ho', hd', _⟩, _⟩ := I.loc
  rw [z, ho'] at ho; cases ho; rw [hd'] at hd; cases hd
theorem Inv.funs (I : Inv X pins σ H s) : s.heap.FunFrames X.base X.outer := by
  have all : ∀ (l : List Env), (∀ b ∈ frs l, b ∈ X.fs) -> X.s₀.heap.FunFrames X.base l -> s.heap.FunFrames X.base l := by
    intro l
    induction l with
    | nil => intro _ _; trivial
    | cons env r ih =>
      intro hs hl
      obtain ⟨hk, ⟨L, o, hf, hn, ho, hd⟩, hr⟩ := hl
      have hL : L ∈ X.fs := hs L (by unfold frs; rw [List.filterMap_cons, hf]; exact List.mem_cons_self)
      obtain ⟨sl, e⟩ := I.base.slot L o ho (I.ok.frf L hL) hL fun z => I.ok.exfs L z hL
      exact ⟨hk, ⟨L, _, hf, hn, e, hd⟩, ih (fun b hb => hs b (by unfold frs; rw [List.filterMap_cons, hf]; exact List.mem_cons_of_mem _ hb)) hr⟩
  exact all X.outer (fun _ hb => hb) I.ok.funs
theorem Inv.stack (I : Inv X pins σ H s) : s.heap.FunFrames X.base X.stack := by
  rcases I.ok.stk with e | ⟨e, hf⟩
  · rw [e]; exact I.funs
  · rw [e]
    obtain ⟨m, hn, _⟩ := I.loc
    refine .cons (by rw [I.ok.kind]; decide) hf hn ?_ I.funs
    exact Heap.get?_none_of_le (Nat.le_trans I.ok.bsz I.ok.above)
theorem Inv.stkSub (I : Inv X pins σ H s) : ∀ b ∈ frs X.stack, b ∈ X.env.locals :: X.fs := fun b hb => by
  rcases I.ok.stk with e | ⟨e, hf⟩
  · rw [e] at hb; exact List.mem_cons_of_mem _ hb
  · rw [e] at hb
    unfold frs at hb
    rw [List.filterMap_cons, hf] at hb
    exact hb
theorem Inv.stkFree (I : Inv X pins σ H s) : ∀ b ∈ frs X.stack, H b = none := fun b hb => by
  rcases List.mem_cons.mp (I.stkSub b hb) with e | hb
  · rw [e]; exact I.free
  · obtain ⟨_, o, ho, _⟩ := I.ok.funs.mem hb
    exact I.base.free b o ho (I.ok.frf b hb) fun z => I.ok.exfs b z hb
theorem Inv.step {g' : Array GenState} {t' : Nat} {d' : Drawn} {ch : List Addr} (I : Inv X pins σ H s)
    (hch : ∀ b ∈ ch, (b ∈ X.ex \/ X.s₀.heap.objs.size ≤ b) /\ b ≠ X.env.locals /\ (∀ x c, X.env.cells.lookup x = some c -> c ≠ b) /\ ∀ p ∈ X.pn ++ pins, p.1 ≠ b)
    (keep : ∀ b o, b ≠ X.env.locals -> b ∉ X.fs -> b ∉ ch -> s.heap.get? b = some o -> H b = none -> h'.get? b = some o)
    (slot : ∀ b o, b ≠ X.env.locals -> b ∈ X.fs -> b ∉ ch -> s.heap.get? b = some o -> H b = none -> ∃ sl, h'.get? b = some { o with slots := sl }) (free : ∀ b o, b ∉ ch -> s.heap.get? b = some o -> H b = none -> H' b = none)
    (there : ∀ b o, b ∉ ch -> s.heap.get? b = some o -> ∃ o', h'.get? b = some o')
    (tups : ∀ b xs, H b = some (.tup xs) -> H' b = some (.tup xs)) (frzs : ∀ b o u, H b = some (.frz o u) -> H' b = some (.frz o u)) (tbls : ∀ b ps, H b = some (.tbl ps) -> ∃ more, H' b = some (.tbl (ps ++ more)))
    (ns : ∀ m, s.heap.Ns X.env.locals m -> h'.Ns X.env.locals m) (hok : HOk X.prog X.w H' h') (hg : AllBare g') :
    Inv X pins σ H' { s with heap := h', gens := g', drawn := d', toks := t' } := by
  have neL : ∀ b o, X.s₀.heap.get? b = some o -> b ≠ X.env.locals := fun b o e => Nat.ne_of_lt (Nat.lt_of_lt_of_le (Heap.lt_size e) I.ok.above)
  have neC : ∀ b o, X.s₀.heap.get? b = some o -> b ∉ X.ex -> b ∉ ch := fun b o e hx hb => by
    rcases (hch b hb).1 with z | z
    · exact hx z
    · exact absurd (Nat.lt_of_lt_of_le (Heap.lt_size e) z) (Nat.lt_irrefl _)
  have cellK : ∀ x c, X.env.cells.lookup x = some c -> ∀ v, s.heap.IsCell c v -> h'.IsCell c v := fun x c e v ⟨o, ho, hd⟩ => by
    have nch : c ∉ ch := fun z => (hch c z).2.2.1 x c e rfl
    by_cases hc : c ∈ X.fs
    · obtain ⟨sl, q⟩ := slot c o (I.cne x c e) hc nch ho (I.freeC x c e)
      exact ⟨_, q, hd⟩
    · exact ⟨o, keep c o (I.cne x c e) hc nch ho (I.freeC x c e), hd⟩
  refine ⟨I.ok, I.os, hg, ⟨fun b o e n hb hx => ?_, fun b o e n hb hx => ?_, fun b o e n hx => ?_, fun b o e hx => ?_, fun b xs e => tups b xs (I.base.tups b xs e), fun b o xs e => frzs b o xs (I.base.frzs b o xs e), fun b ps e => ?_⟩, ?_, fun x c e => ?_, ?_, fun x c e => ?_, fun p hp => ?_, hok, I.len⟩
  · exact keep b o (neL b o e) hb (neC b o e hx) (I.base.keep b o e n hb hx) (I.base.free b o e n hx)
  · obtain ⟨sl, e1⟩ := I.base.slot b o e n hb hx
    obtain ⟨sl', e2⟩ := slot b _ (neL b o e) hb (neC b o e hx) e1 (I.base.free b o e n hx)
    exact ⟨sl', e2⟩
  · obtain ⟨o', e1⟩ := I.base.there b o e hx
    exact free b o' (neC b o e hx) e1 (I.base.free b o e n hx)
  · obtain ⟨o', e1⟩ := I.base.there b o e hx
    exact there b o' (neC b o e hx) e1
  · obtain ⟨m1, e1⟩ := I.base.tbls b ps e
    obtain ⟨m2, e2⟩ := tbls b _ e1
    exact ⟨m1 ++ m2, by rw [e2, Array.append_assoc]⟩
  · obtain ⟨m, hn, hl⟩ := I.loc
    refine ⟨m, ns m hn, fun i x v e1 e2 e3 => ?_⟩
    obtain ⟨u, r, l⟩ := hl i x v e1 e2 e3
    refine ⟨u, r, ?_⟩
    rcases l with l | ⟨k, c, e, z⟩
    · exact .inl l
    · exact .inr ⟨k, c, e, cellK x c e _ z⟩
  · obtain ⟨v, z⟩ := I.cell x c e
    exact ⟨v, cellK x c e v z⟩
  · obtain ⟨m, ⟨o, _, _, ho, _⟩, _⟩ := I.loc
    exact free _ o (fun z => (hch _ z).2.1 rfl) ho I.free
  · obtain ⟨v, o, ho, hd⟩ := I.cell x c e
    exact free c o (fun z => (hch c z).2.2.1 x c e rfl) ho (I.freeC x c e)
  · obtain ⟨e, n, ne, nf, d⟩ := I.pin p hp
    have nch : p.1 ∉ ch := fun z => (hch p.1 z).2.2.2 p hp rfl
    exact ⟨keep p.1 p.2 ne nf nch e n, free p.1 p.2 nch e n, ne, nf, d⟩
theorem Inv.un {t' : Nat} (I : Inv X pins σ H s) (u : Un X.fs [] H H' s.heap h') (hok : HOk X.prog X.w H' h') : Inv X pins σ H' { s with heap := h', toks := t' } := by
  obtain ⟨m, ⟨o, es, ep, ho, r⟩, _⟩ := id I.loc
  obtain ⟨sl, hL⟩ := u.any ho I.free (by simp)
  exact I.step (g' := s.gens) (d' := s.drawn) (ch := []) (fun _ z => nomatch z) (fun b o _ hb _ e n => u.keep b o e n hb (by simp)) (fun b o _ hb _ e n => u.slot b o e n hb (by simp)) (fun b o _ e n => u.free b o e n (by simp)) (fun b o _ e => u.there b o e (by simp)) u.tups u.frzs u.tbls (fun m' hm => by
    obtain ⟨o', es', ep', ho', r'⟩ := hm
    rw [ho] at ho'; cases ho'
    exact ⟨_, es', ep', hL, r'⟩) hok I.bare
theorem Inv.call {g' : Array GenState} {t' : Nat} {d' : Drawn} {ch : List Addr} (I : Inv X pins σ H s) (u : Un (frs X.stack) ch H H' s.heap h') (hok : HOk X.prog X.w H' h') (hg : AllBare g')
    (hch : ∀ b ∈ ch, (b ∈ X.ex \/ X.s₀.heap.objs.size ≤ b) /\ b ≠ X.env.locals /\ (∀ x c, X.env.cells.lookup x = some c -> c ≠ b) /\ ∀ p ∈ X.pn ++ pins, p.1 ≠ b) :
    Inv X pins σ H' { s with heap := h', gens := g', drawn := d', toks := t' } := by
  obtain ⟨m, ⟨o, es, ep, ho, r⟩, _⟩ := id I.loc
  obtain ⟨sl, hL⟩ := u.any ho I.free fun z => (hch _ z).2.1 rfl
  exact I.step (ch := ch) hch (fun b o hL hb hc e n => u.keep b o e n (fun z => (List.mem_cons.mp (I.stkSub b z)).elim hL hb) hc) (fun b o _ _ hc e n => u.any e n hc) (fun b o hc e n => u.free b o e n hc) (fun b o hc e => u.there b o e hc) u.tups u.frzs u.tbls (fun m' hm => by
    obtain ⟨o', es', ep', ho', r'⟩ := hm
    rw [ho] at ho'; cases ho'
    exact ⟨_, es', ep', hL, r'⟩) hok hg
theorem Inv.turned {t' : Nat} {it : Addr} (I : Inv X pins σ H s) (k : ∀ b o, b ≠ it -> s.heap.get? b = some o -> h'.get? b = some o) (hn : H it = none) (hL : it ≠ X.env.locals)
    (h1 : it ∈ X.ex \/ X.s₀.heap.objs.size ≤ it) (h2 : ∀ x c, X.env.cells.lookup x = some c -> c ≠ it) (h3 : ∀ p ∈ X.pn ++ pins, p.1 ≠ it) : Inv X pins σ H { s with heap := h', toks := t' } := by
  have nit : ∀ b u, H b = some u -> b ≠ it := fun b u e z => by rw [z, hn] at e; cases e
  refine I.step (g' := s.gens) (d' := s.drawn) (ch := [it]) (fun b hb => ?_) (fun b o _ _ hc e _ => k b o (fun z => hc (by simp [z])) e) (fun b o _ _ hc e _ => ⟨o.slots, k b o (fun z => hc (by simp [z])) e⟩) (fun _ _ _ _ n => n)
    (fun b o hc e => ⟨o, k b o (fun z => hc (by simp [z])) e⟩) (fun _ _ e => e) (fun _ _ _ e => e) (fun b ps e => ⟨#[], by rw [e]; simp⟩) (fun m hm => ?_) (fun b u e => ?_) I.bare
  · have e : b = it := by simpa using hb
    subst e
    exact ⟨h1, hL, h2, h3⟩
  · obtain ⟨o, es, ep, ho, r⟩ := hm
    exact ⟨o, es, ep, k _ o (Ne.symm hL) ho, r⟩
  · refine (I.hok b u e).stay (fun c v hc q => k c v ?_ q) (fun _ q => q) fun _ _ q => q
    rcases hc with z | z
    · rw [z]; exact nit b u e
    · exact nit c _ z
theorem Inv.tok (I : Inv X pins σ H s) (t : Nat) : Inv X pins σ H { s with toks := t } := I.un (h' := s.heap) (t' := t) Un.refl I.hok
theorem Inv.kept {t' : Nat} (I : Inv X pins σ H s) (k : ∀ b u, s.heap.get? b = some u -> h'.get? b = some u) : Inv X pins σ H { s with heap := h', toks := t' } := I.un (Un.kept k) (I.hok.kept k)
theorem Inv.laid {a : Addr} {o : HO} {t' : Nat} (I : Inv X pins σ H s) (k : ∀ b u, s.heap.get? b = some u -> h'.get? b = some u) (hp : s.heap.objs.size ≤ a) (new : zdq X.prog X.w (upd H a o) h' a o) :
    Inv X pins σ (upd H a o) { s with heap := h', toks := t' } := I.un (Un.laid k hp (I.hok.fresh hp)) (I.hok.laid k hp new)
theorem Inv.write {x e : Addr} {o : HO} {t' : Nat} (I : Inv X pins σ H s) (mu : Mut (H x)) (he : e = x \/ H e = some (.own x)) (k : ∀ b u, b ≠ e -> s.heap.get? b = some u -> h'.get? b = some u) (heo : ∃ u, h'.get? e = some u)
    (new : zdq X.prog X.w (upd H x o) h' x o) : Inv X pins σ (upd H x o) { s with heap := h', toks := t' } := I.un (Un.write mu he k heo) (I.hok.write mu he k heo new)
theorem Inv.weak {σ' : List (Option V)} (I : Inv X pins σ H s) (hl : σ'.length = σ.length) (w : ∀ (i : Nat) v, σ'[i]? = some (some v) -> σ[i]? = some (some v)) : Inv X pins σ' H s :=
  ⟨I.ok, I.os, I.bare, I.base, let ⟨m, hn, hl'⟩ := I.loc; ⟨m, hn, fun i x v e1 e2 e3 => hl' i x v e1 (w i v e2) e3⟩, I.cell, I.free, I.freeC, I.pin, I.hok, hl.trans I.len⟩
theorem Inv.pins_of {pins' : List (Addr × Obj)} (I : Inv X pins σ H s) (h : ∀ p ∈ pins', s.heap.get? p.1 = some p.2 /\ H p.1 = none /\ p.1 ≠ X.env.locals /\ p.1 ∉ X.fs /\ ∀ v, p.2.data ≠ .cell v) : Inv X pins' σ H s :=
  ⟨I.ok, I.os, I.bare, I.base, I.loc, I.cell, I.free, I.freeC, fun p hp => (List.mem_append.mp hp).elim (fun z => I.pin p (List.mem_append_left _ z)) (h p), I.hok, I.len⟩
theorem zqo {N : List Str} (hN : N.Nodup) {i j : Nat} {x : Str} (a : N[i]? = some x) (b : N[j]? = some x) : i = j := by
  obtain ⟨h1, e1⟩ := List.getElem?_eq_some_iff.mp a
  obtain ⟨h2, e2⟩ := List.getElem?_eq_some_iff.mp b
  exact (List.getElem_inj hN).mp (e1.trans e2.symm)
theorem zoh {M : Model} {A : Around} {E : Value -> Shared -> Prop} {i : Nat} {x : Str} {v : V} {u : Value} {Q : Unit -> Shared -> Prop} (I : Inv X pins σ H s) (hN : X.N.Nodup) (hi : X.N[i]? = some x) (hx : Loc X.env.scope x) (r : RelV v u)
    (h : ∀ s', Inv X pins (σ.set i (some v)) H s' -> (∃ a, Heap.SameBut a s.heap s'.heap /\ (a = X.env.locals \/ X.env.cells.lookup x = some a)) -> Q () s') (hf : X.fn x = true \/ X.env.scope.names.lookup x = some .local := by first | exact .inl rfl | exact .inr rfl | assumption) : wpAny M A (storeName X.env x u) Q E s := by
  obtain ⟨m, hn, hl⟩ := id I.loc
  have hcls : (X.env.scope.kind == .class || (X.env.scope.kind == .module && X.env.locals != X.env.globals)) = false := by rw [I.ok.kind]; rfl
  have hiσ : i < σ.length := by rw [I.len]; exact (List.getElem?_eq_some_iff.mp hi).1
  have cne := I.cne
  have tracked : ∀ {a : Addr} {h' : Heap}, (∃ o, s.heap.get? a = some o /\ H a = none) -> Heap.SameBut a s.heap h' -> HOk X.prog X.w H h' := fun {a h'} ha hs b ob e => by
    obtain ⟨_, _, hfree⟩ := ha
    refine (I.hok b ob e).stay (fun c w' hc q => (hs.2 c ?_).trans q) (fun _ q => q) fun _ _ q => q
    rintro rfl
    rcases hc with rfl | hc
    · rw [hfree] at e; cases e
    · rw [hfree] at hc; cases hc
  rcases hx with hk | hk
  · refine wpAny_storeName_local hk hn (fun h' hn' hs => ?_) hcls
    obtain ⟨oL, _, _, hoL, _⟩ := id hn
    refine h _ ⟨I.ok, I.os, I.bare, ⟨fun b o e n hb hx => ?_, fun b o e n hb hx => ?_, I.base.free, fun b o e hx => ?_, I.base.tups, I.base.frzs, I.base.tbls⟩, ⟨_, hn', fun j y v' e1 e2 e3 => ?_⟩, fun y c e => ?_, I.free, I.freeC, fun p hp => ?_, tracked ⟨oL, hoL, I.free⟩ hs, by simpa using I.len⟩ ⟨_, hs, .inl rfl⟩
    · exact (hs.2 b (Nat.ne_of_lt (Nat.lt_of_lt_of_le (Heap.lt_size e) I.ok.above))).trans (I.base.keep b o e n hb hx)
    · obtain ⟨sl, e1⟩ := I.base.slot b o e n hb hx
      exact ⟨sl, (hs.2 b (Nat.ne_of_lt (Nat.lt_of_lt_of_le (Heap.lt_size e) I.ok.above))).trans e1⟩
    · obtain ⟨o', e1⟩ := I.base.there b o e hx
      exact ⟨o', (hs.2 b (Nat.ne_of_lt (Nat.lt_of_lt_of_le (Heap.lt_size e) I.ok.above))).trans e1⟩
    · by_cases hj : j = i
      · subst hj
        rw [hi] at e1; cases e1
        rw [List.getElem?_set_self hiσ] at e2
        cases e2
        exact ⟨u, r, .inl ⟨hk, by simp⟩⟩
      · rw [List.getElem?_set_ne (Ne.symm hj)] at e2
        obtain ⟨u', r', q⟩ := hl j y v' e1 e2 e3
        refine ⟨u', r', ?_⟩
        rcases q with ⟨k, e⟩ | ⟨k, c, e, z⟩
        · refine .inl ⟨k, ?_⟩
          have : y ≠ x := fun e => hj (zqo hN e1 (e ▸ hi))
          simp [this, e]
        · exact .inr ⟨k, c, e, z.sameBut hs (cne y c e)⟩
    · obtain ⟨w', z⟩ := I.cell y c e
      exact ⟨w', z.sameBut hs (cne y c e)⟩
    · obtain ⟨e, n, ne, nf, d⟩ := I.pin p hp
      exact ⟨(hs.2 p.1 ne).trans e, n, ne, nf, d⟩
  · have hfn : X.fn x = true := by
      rcases hf with z | z
      · exact z
      · rw [z] at hk; cases hk
    obtain ⟨c, hc⟩ := I.ok.has x (.inl hk)
    obtain ⟨w', z⟩ := I.cell x c hc
    refine wpAny_storeName_cell I.ok.kind hk hc z (fun h' hc' hs => ?_)
    obtain ⟨oc, hoc, hocd⟩ := id z
    refine h { s with heap := h' } ⟨I.ok, I.os, I.bare, ⟨fun b o e n hb hx => ?_, fun b o e n hb hx => ?_, I.base.free, fun b o e hx => ?_, I.base.tups, I.base.frzs, I.base.tbls⟩, ⟨m, hn.sameBut hs (Ne.symm (cne x c hc)), fun j y v' e1 e2 e3 => ?_⟩, fun y c' e => ?_, I.free, I.freeC, fun p hp => ?_, tracked ⟨oc, hoc, I.freeC x c hc⟩ hs, by simpa using I.len⟩ ⟨c, hs, .inr hc⟩
    · exact (hs.2 b (Nat.ne_of_lt (Nat.lt_of_lt_of_le (Heap.lt_size e) (I.ok.cab x c hfn hc)))).trans (I.base.keep b o e n hb hx)
    · obtain ⟨sl, e1⟩ := I.base.slot b o e n hb hx
      exact ⟨sl, (hs.2 b (Nat.ne_of_lt (Nat.lt_of_lt_of_le (Heap.lt_size e) (I.ok.cab x c hfn hc)))).trans e1⟩
    · obtain ⟨o', e1⟩ := I.base.there b o e hx
      exact ⟨o', (hs.2 b (Nat.ne_of_lt (Nat.lt_of_lt_of_le (Heap.lt_size e) (I.ok.cab x c hfn hc)))).trans e1⟩
    · by_cases hj : j = i
      · subst hj
        rw [hi] at e1; cases e1
        rw [List.getElem?_set_self hiσ] at e2
        cases e2
        exact ⟨u, r, .inr ⟨.inl hk, c, hc, hc'⟩⟩
      · rw [List.getElem?_set_ne (Ne.symm hj)] at e2
        obtain ⟨u', r', q⟩ := hl j y v' e1 e2 e3
        refine ⟨u', r', ?_⟩
        rcases q with q | ⟨k, c', e, z'⟩
        · exact .inl q
        · refine .inr ⟨k, c', e, z'.sameBut hs ?_⟩
          rintro rfl
          exact hj (zqo hN e1 (I.ok.inj _ _ _ e hc ▸ hi))
    · by_cases hcc : c' = c
      · subst hcc; exact ⟨_, hc'⟩
      · obtain ⟨w2, z2⟩ := I.cell y c' e
        exact ⟨w2, z2.sameBut hs hcc⟩
    · obtain ⟨e, n, ne, nf, d⟩ := I.pin p hp
      refine ⟨(hs.2 p.1 ?_).trans e, n, ne, nf, d⟩
      intro q
      rw [q, hoc] at e
      have q' : oc = p.2 := Option.some.inj e
      exact d w' (by rw [<- q']; exact hocd)
theorem zlq {M : Model} {A : Around} {E : Value -> Shared -> Prop} {i : Nat} {x : Str} {v : V} {u : Value} {Q : Unit -> Shared -> Prop} (I : Inv X pins σ H s) (hN : X.N.Nodup) (hi : X.N[i]? = some x) (hx : Loc X.env.scope x) (r : RelV v u)
    (h : ∀ s', Inv X pins (σ.set i (some v)) H s' -> Q () s') (hf : X.fn x = true \/ X.env.scope.names.lookup x = some .local := by first | exact .inl rfl | exact .inr rfl | assumption) : wpAny M A (storeName X.env x u) Q E s :=
  zoh I hN hi hx r (fun s' I' _ => h s' I') hf
theorem Inv.call' {s' : Shared} {ch : List Addr} (I : Inv X pins σ H s) (ho : s'.os = s.os) (u : Un (frs X.stack) ch H H' s.heap s'.heap) (hok : HOk X.prog X.w H' s'.heap) (hg : AllBare s'.gens)
    (hch : ∀ b ∈ ch, (b ∈ X.ex \/ X.s₀.heap.objs.size ≤ b) /\ b ≠ X.env.locals /\ (∀ x c, X.env.cells.lookup x = some c -> c ≠ b) /\ ∀ p ∈ X.pn ++ pins, p.1 ≠ b) : Inv X pins σ H' s' := by
  obtain ⟨h', g', d', t', o'⟩ := s'
  have e : o' = s.os := ho
  subst e
  exact I.call (g' := g') (t' := t') (d' := d') u hok hg hch
end
abbrev XK := Value -> Option Addr -> Hp -> Prop
abbrev St := List (Option V)
abbrev VK := V -> Hp -> Prop
abbrev TE := St -> Hp -> VK -> Prop
abbrev TT := St -> Hp -> (Bool -> Hp -> Prop) -> Prop
abbrev TA := St -> Hp -> (List V -> Hp -> Prop) -> Prop
structure Ends where
  nx : St -> Hp -> Prop
  rt : VK
  bk : St -> Hp -> Prop := fun _ _ => False
  ct : St -> Hp -> Prop := fun _ _ => False
abbrev TS := Ends -> St -> Hp -> Prop
def EP (X : Cx) (pins : List (Addr × Obj)) (σ : St) (Q : VK) (u : Value) (s' : Shared) : Prop := ∃ v H', Inv X pins σ H' s' /\ RelV v u /\ Q v H'
def TP (X : Cx) (pins : List (Addr × Obj)) (σ : St) (Q : Bool -> Hp -> Prop) (b : Bool) (s' : Shared) : Prop := ∃ H', Inv X pins σ H' s' /\ Q b H'
def AP (X : Cx) (pins : List (Addr × Obj)) (σ : St) (Q : List V -> Hp -> Prop) (us : List Value) (s' : Shared) : Prop := ∃ vs H', Inv X pins σ H' s' /\ Vals vs us /\ Q vs H'
def SP (X : Cx) (pins : List (Addr × Obj)) (D : Ends) (f : Flow) (s' : Shared) : Prop :=
  match f with
  | .next => ∃ σ' H', Inv X pins σ' H' s' /\ D.nx σ' H'
  | .brk => ∃ σ' H', Inv X pins σ' H' s' /\ D.bk σ' H'
  | .cont => ∃ σ' H', Inv X pins σ' H' s' /\ D.ct σ' H'
  | .ret u => ∃ v σ' H', Inv X pins σ' H' s' /\ RelV v u /\ D.rt v H'
def PE (X : Cx) (e : Expr) (t : TE) : Prop :=
  ∀ (pins : List (Addr × Obj)) (s : Shared) (σ : St) (H : Hp) (Q : VK), Inv X pins σ H s -> t σ H Q -> wpAny (model X.prog X.w) X.A (eval e X.env) (EP X pins σ Q) X.xe s
def PT (X : Cx) (e : Expr) (t : TT) : Prop :=
  ∀ (pins : List (Addr × Obj)) (s : Shared) (σ : St) (H : Hp) (Q : Bool -> Hp -> Prop), Inv X pins σ H s -> t σ H Q -> wpAny (model X.prog X.w) X.A (isTrue e X.env (eval e X.env)) (TP X pins σ Q) X.xe s
def PW (X : Cx) (e : Expr) (t : TT) : Prop :=
  ∀ (whole : Sem Value) (pins : List (Addr × Obj)) (s : Shared) (σ : St) (H : Hp) (Q : Bool -> Hp -> Prop), Inv X pins σ H s -> t σ H Q -> wpAny (model X.prog X.w) X.A (isTrue e X.env whole) (TP X pins σ Q) X.xe s
theorem PW.pt {X : Cx} {e : Expr} {t : TT} (h : PW X e t) : PT X e t := h _
def PA (X : Cx) (es : List Expr) (t : TA) : Prop :=
  ∀ (pos : Pos) (pins : List (Addr × Obj)) (s : Shared) (σ : St) (H : Hp) (Q : List V -> Hp -> Prop), Inv X pins σ H s -> t σ H Q -> wpAny (model X.prog X.w) X.A (spliced (backTo pos (starEach es X.env))) (AP X pins σ Q) X.xe s
def PS (X : Cx) (st : Stmt) (t : TS) : Prop :=
  ∀ (pins : List (Addr × Obj)) (s : Shared) (σ : St) (H : Hp) (D : Ends), Inv X pins σ H s -> t D σ H -> wpAny (model X.prog X.w) X.A (exec st X.env) (SP X pins D) X.xe s
def PSs (X : Cx) (st : List Stmt) (t : TS) : Prop :=
  ∀ (pins : List (Addr × Obj)) (s : Shared) (σ : St) (H : Hp) (D : Ends), Inv X pins σ H s -> t D σ H -> wpAny (model X.prog X.w) X.A (execs st X.env) (SP X pins D) X.xe s
theorem thn {α : Type} {t : Sem α} {Q Q' : α -> Shared -> Prop} {M : Model} {A : Around} {E : Value -> Shared -> Prop} {s : Shared} (h : wpAny M A t Q E s) (hQ : ∀ a s, Q a s -> Q' a s) : wpAny M A t Q' E s := wpAny_mono h hQ fun _ _ x => x
end L2
namespace L2
open PySem PySem.Spec PyProof.Rows
section
variable {X : Cx}
theorem bin {a b : Expr} {ta tb : TE} (ha : PE X a ta) (hb : PE X b tb) {pins : List (Addr × Obj)} {s : Shared} {σ : St} {H : Hp} {R : V -> V -> Hp -> Prop} (I : Inv X pins σ H s) (h : ta σ H fun x H1 => tb σ H1 fun y H2 => R x y H2)
    {α : Type} {Q : α -> Shared -> Prop} {f : Value -> Value -> Sem α}
    (hf : ∀ v u s2 x y H2, Inv X pins σ H2 s2 -> RelV x v -> RelV y u -> R x y H2 -> wpAny (model X.prog X.w) X.A (f v u) Q X.xe s2) :
    wpAny (model X.prog X.w) X.A (eval a X.env) (fun v s₁ => wpAny (model X.prog X.w) X.A (eval b X.env) (fun u s₂ => wpAny (model X.prog X.w) X.A (f v u) Q X.xe s₂) X.xe s₁) X.xe s := by
  refine thn (ha pins s σ H _ I h) fun v s1 ⟨x, H1, I1, r1, q1⟩ => ?_
  refine thn (hb pins s1 σ H1 _ I1 q1) fun u s2 ⟨y, H2, I2, r2, q2⟩ => ?_
  exact hf v u s2 x y H2 I2 r1 r2 q2
def tVar (i : Nat) : TE := fun σ H Q => ∃ v, σ[i]? = some (some v) /\ Q v H
def tC (v : V) : TE := fun _ H Q => Q v H
theorem zqe {i : Nat} {x : Str} {pos : Pos} (hN : X.N[i]? = some x) (hv : Vis X.env.scope x) (hd : (x == ("__debug__" : Str)) = false := by decide) (hcd : (x == ("__classdict__" : Str)) = false := by decide) : PE X (.Name x pos) (tVar i) := by
  intro pins s σ H Q I h
  obtain ⟨v, e, h⟩ := h
  obtain ⟨m, hn, hl⟩ := I.loc
  obtain ⟨u, r, l⟩ := hl i x v hN e hv
  have fin : EP X pins σ Q u s := ⟨v, H, I, r, h⟩
  rcases l with ⟨hk, hm⟩ | ⟨hk, c, hc, hcell⟩
  · exact wpAny_Name (wpAny_loadName_local I.ok.kind hk hn hm fin) hd
  · rcases hk with hk | hk
    · exact wpAny_Name (wpAny_loadName_cell I.ok.kind hk hc hcell fin) hd
    · exact wpAny_Name (wpAny_loadName_free I.ok.kind hk hc hcell fin hcd) hd
theorem zvf {i j pos} : PE X (.Constant (.int i) j pos) (tC (.int i)) := fun _ _ _ H _ I h => wpAny_Constant_int ⟨.int i, H, I.tok _, ⟨_, rfl⟩, h⟩
theorem pe_bl {b j pos} : PE X (.Constant (.bool b) j pos) (tC (.bl b)) := fun _ _ _ H _ I h => Constant_bool ⟨.bl b, H, I, rfl, h⟩
theorem pe_non {j pos} : PE X (.Constant .none j pos) (tC .non) := fun _ _ _ H _ I h => Constant_none ⟨.non, H, I, rfl, h⟩
theorem pe_str {x j pos} : PE X (.Constant (.str x) j pos) (tC (.str x)) := fun _ _ _ H _ I h => Calls.Constant_str ⟨.str x, H, I.tok _, ⟨_, rfl⟩, h⟩
def Gl (X : Cx) (x : Str) : Prop := X.env.kindOf x = some .globalImplicit
theorem zsl {E : Value -> Shared -> Prop} {pins : List (Addr × Obj)} {s : Shared} {σ : St} {H : Hp} {x : Str} {u : Value} {pos : Pos} {Q : Value -> Shared -> Prop} (I : Inv X pins σ H s) (hg : Gl X x) (hm : X.mg x = some u) (h : Q u s)
    (hd : (x == ("__debug__" : Str)) = false := by decide) : wpAny (model X.prog X.w) X.A (eval (.Name x pos) X.env) Q E s :=
  Calls.Name_function_global I.ok.kind hg (Calls.loadGlobal_global (by rw [I.ok.glob]; exact I.mod.glob.keeps I.bk) hm h) hd
theorem zhy {E : Value -> Shared -> Prop} {pins : List (Addr × Obj)} {s : Shared} {σ : St} {H : Hp} {x : Str} {u : Value} {pos : Pos} {Q : Value -> Shared -> Prop} (I : Inv X pins σ H s) (hg : Gl X x) (hm : X.mg x = none) (hv : bootBuiltins x = some u) (h : Q u s)
    (hn : x ≠ "__name__" := by decide) (hd : (x == ("__debug__" : Str)) = false := by decide) : wpAny (model X.prog X.w) X.A (eval (.Name x pos) X.env) Q E s := by
  obtain ⟨mb, h1, h2⟩ := I.mod.blt
  exact Calls.Name_function_global I.ok.kind hg (Calls.loadGlobal_builtin (by rw [I.ok.glob]; exact I.mod.glob.keeps I.bk) hm (by rw [I.ok.blt]; exact h1.keeps I.bk) ((h2 x hn).trans hv) h) hd
theorem znq {x : Str} {v : V} {u : Value} {pos : Pos} (hg : Gl X x) (hm : X.mg x = some u) (r : RelV v u) (hd : (x == ("__debug__" : Str)) = false := by decide) : PE X (.Name x pos) (tC v) :=
  fun _ _ _ H _ I h => zsl I hg hm ⟨v, H, I, r, h⟩ hd
theorem zz7 {x : Str} {v : V} {u : Value} {pos : Pos} (hg : Gl X x) (hm : X.mg x = none) (hv : bootBuiltins x = some u) (r : RelV v u) (hn : x ≠ "__name__" := by decide) (hd : (x == ("__debug__" : Str)) = false := by decide) : PE X (.Name x pos) (tC v) :=
  fun _ _ _ H _ I h => zhy I hg hm hv ⟨v, H, I, r, h⟩ hn hd
variable {a b : Expr} {ta tb : TE} {pos : Pos}
variable {tA tB' : TT} {rest : List Expr}
def zlp (t u : TT) : TT := fun σ H Q => t σ H fun c H1 => if c = true then u σ H1 Q else Q false H1
def tOr (t u : TT) : TT := fun σ H Q => t σ H fun c H1 => if c = true then Q true H1 else u σ H1 Q
def zdg (t : TT) : TT := fun σ H Q => t σ H fun c H1 => Q (!c) H1
theorem zzw (ha : PT X a tA) : PW X (.BoolOp .And [a] pos) tA := by
  intro wh pins s σ H Q I h
  refine isTrue_and (thn (ha pins s σ H Q I h) fun c s1 e => ?_)
  cases c with
  | true => exact isTrue_and_nil e
  | false => exact e
theorem pw_or1 (ha : PT X a tA) : PW X (.BoolOp .Or [a] pos) tA := by
  intro wh pins s σ H Q I h
  refine isTrue_or (thn (ha pins s σ H Q I h) fun c s1 e => ?_)
  cases c with
  | false => exact isTrue_or_nil e
  | true => exact e
theorem pw_and (ha : PT X a tA) (hb : PW X (.BoolOp .And (b :: rest) pos) tB') : PW X (.BoolOp .And (a :: b :: rest) pos) (zlp tA tB') := by
  intro wh pins s σ H Q I h
  refine isTrue_and (thn (ha pins s σ H _ I h) fun c s1 ⟨H1, I1, q1⟩ => ?_)
  cases c with
  | true => exact hb wh pins s1 σ H1 Q I1 q1
  | false => exact ⟨H1, I1, q1⟩
theorem pw_or (ha : PT X a tA) (hb : PW X (.BoolOp .Or (b :: rest) pos) tB') : PW X (.BoolOp .Or (a :: b :: rest) pos) (tOr tA tB') := by
  intro wh pins s σ H Q I h
  refine isTrue_or (thn (ha pins s σ H _ I h) fun c s1 ⟨H1, I1, q1⟩ => ?_)
  cases c with
  | true => exact ⟨H1, I1, q1⟩
  | false => exact hb wh pins s1 σ H1 Q I1 q1
theorem pt_not (ha : PT X a tA) : PT X (.UnaryOp .Not a pos) (zdg tA) := by
  intro pins s σ H Q I h
  exact isTrue_not (ha pins s σ H (fun c H1 => Q (!c) H1) I h)
def tAndV (ta tb : TE) : TE := fun σ H Q => ta σ H fun x H1 => ∃ c, x = .bl c /\ if c = true then tb σ H1 Q else Q (.bl false) H1
def tNotV (ta : TE) : TE := fun σ H Q => ta σ H fun x H1 => ∃ c, x = .bl c /\ Q (.bl (!c)) H1
theorem pe_one {op} {t : TE} (h : PE X a t) : PE X (.BoolOp op [a] pos) t := fun pins s σ H Q I hw => BoolOp_one (h pins s σ H Q I hw)
theorem pe_and (ha : PE X a ta) (hb : PE X (.BoolOp .And (b :: rest) pos) tb) : PE X (.BoolOp .And (a :: b :: rest) pos) (tAndV ta tb) := by
  intro pins s σ H Q I h
  refine BoolOp_and (thn (ha pins s σ H _ I h) fun v s1 ⟨x, H1, I1, r1, q1⟩ => ?_)
  obtain ⟨c, rfl, q1⟩ := q1
  cases r1
  refine wpAny_truthy_bool ?_
  cases c with
  | true => exact hb pins s1 σ H1 Q I1 q1
  | false => exact ⟨.bl false, H1, I1, rfl, q1⟩
theorem pe_not (ha : PE X a ta) : PE X (.UnaryOp .Not a pos) (tNotV ta) := by
  intro pins s σ H Q I h
  refine UnaryOp_ (thn (ha pins s σ H _ I h) fun v s1 ⟨x, H1, I1, r1, q1⟩ => ?_)
  obtain ⟨c, rfl, q1⟩ := q1
  cases r1
  exact not_of (wpAny_truthy_bool ⟨.bl (!c), H1, I1, rfl, q1⟩)
def tIf (t : TT) (ta tb : TE) : TE := fun σ H Q => t σ H fun c H1 => if c = true then ta σ H1 Q else tb σ H1 Q
theorem zxh {c : Expr} (hc : PT X c tA) (ha : PE X a ta) (hb : PE X b tb) : PE X (.IfExp c a b pos) (tIf tA ta tb) := by
  intro pins s σ H Q I h
  refine wpAny_IfExp (thn (hc pins s σ H _ I h) fun d s1 ⟨H1, I1, q1⟩ => ?_)
  cases d with
  | true => exact ha pins s1 σ H1 Q I1 q1
  | false => exact hb pins s1 σ H1 Q I1 q1
end
end L2
namespace L2
open PySem PySem.Spec PyProof.Rows
def SqL (K : PySem.W.Frag) (H : Hp) (a : Addr) (xs : List V) : Prop :=
  Rd H a (.lst xs) \/
    ∃ (o : Obj) (its : Array Value) (n : Nat), K.lookup a = some o /\ o.cls = .type "list" /\ o.dict = none /\ o.data = .seq its n /\ its.size ≤ sizeLine /\ Vals xs its.toList
def SqT (K : PySem.W.Frag) (H : Hp) (a : Addr) (xs : List V) : Prop :=
  Rd H a (.tup xs) \/
    ∃ (o : Obj) (its : Array Value) (n : Nat), K.lookup a = some o /\ o.cls = .type "tuple" /\ o.data = .seq its n /\ its.size ≤ sizeLine /\ Vals xs its.toList
def absV : Value -> Option V
  | .none => some .non
  | .bool b => some (.bl b)
  | .int i _ => some (.int i)
  | .str x _ => some (.str x)
  | .bytes b _ => some (.byt b)
  | .float b _ => some (.flt b)
  | .ref a => some (.ref a)
  | .type n => some (.ty n)
  | _ => none
theorem RelV.abs {x : V} {u : Value} (r : RelV x u) : absV u = some x := by
  cases x with
  | non => cases r; rfl
  | bl _ => cases r; rfl
  | int _ => obtain ⟨t, rfl⟩ := r; rfl
  | str _ => obtain ⟨t, rfl⟩ := r; rfl
  | byt _ => obtain ⟨t, rfl⟩ := r; rfl
  | flt _ => obtain ⟨t, rfl⟩ := r; rfl
  | ref _ => cases r; rfl
  | ty _ => cases r; rfl
theorem RelV.inj {x y : V} {u : Value} (r : RelV x u) (q : RelV y u) : x = y := Option.some.inj (r.abs.symm.trans q.abs)
theorem Vals.inj : ∀ {xs ys : List V} {us : List Value}, Vals xs us -> Vals ys us -> xs = ys
  | _, _, _, .nil, .nil => rfl
  | _, _, _, .cons r t, .cons r' t' => by rw [r.inj r', Vals.inj t t']
section
variable {X : Cx} {pins : List (Addr × Obj)} {σ : St} {H : Hp} {s : Shared} {a : Addr} {xs ys : List V}
theorem SqL.of {K : PySem.W.Frag} (h : H a = some (.lst xs)) : SqL K H a xs := .inl (.inl h)
theorem SqT.of {K : PySem.W.Frag} (h : H a = some (.tup xs)) : SqT K H a xs := .inl (.inl h)
theorem Inv.list (I : Inv X pins σ H s) (h : SqL X.K H a xs) : ∃ its : List Value, Vals xs its /\ PlainL s.heap a its.toArray /\ xs.length ≤ sizeLine := by
  rcases h with h | ⟨o, its, n, hk, hc, hd, hs, hz, r⟩
  · obtain ⟨z, its, n, r, e⟩ := h.ok I.hok
    exact ⟨its, r, ⟨_, n, e, rfl, rfl, rfl⟩, z⟩
  · refine ⟨its.toList, r, ⟨o, n, I.kIn a o hk, hc, hd, by simpa using hs⟩, ?_⟩
    have e := r.length
    simp only [Array.length_toList] at e
    omega
theorem Inv.tuple (I : Inv X pins σ H s) (h : SqT X.K H a xs) : ∃ its : List Value, Vals xs its /\ IsTup s.heap a its.toArray /\ xs.length ≤ sizeLine := by
  rcases h with h | ⟨o, its, n, hk, hc, hs, hz, r⟩
  · obtain ⟨z, its, r, p⟩ := h.ok I.hok
    exact ⟨its, r, p, z⟩
  · refine ⟨its.toList, r, ⟨o, I.kIn a o hk, hc, n, by simpa using hs⟩, ?_⟩
    have e := r.length
    simp only [Array.length_toList] at e
    omega
theorem Inv.list_inj (I : Inv X pins σ H s) (h : SqL X.K H a xs) (h' : SqL X.K H a ys) : xs = ys := by
  obtain ⟨its, r, ⟨o, n, e, _, _, d⟩, _⟩ := I.list h
  obtain ⟨its', r', ⟨o', n', e', _, _, d'⟩, _⟩ := I.list h'
  rw [e] at e'; cases e'
  rw [d] at d'
  injection d' with d1 _
  have : its = its' := by simpa using congrArg Array.toList d1
  subst this
  exact r.inj r'
theorem Inv.tuple_inj (I : Inv X pins σ H s) (h : SqT X.K H a xs) (h' : SqT X.K H a ys) : xs = ys := by
  obtain ⟨its, r, ⟨o, e, _, n, d⟩, _⟩ := I.tuple h
  obtain ⟨its', r', ⟨o', e', _, n', d'⟩, _⟩ := I.tuple h'
  rw [e] at e'; cases e'
  rw [d] at d'
  injection d' with d1 _
  have : its = its' := by simpa using congrArg Array.toList d1
  subst this
  exact r.inj r'
end
abbrev Cx.wish (X : Cx) (E : Value -> Shared -> Prop) : Cx := { X with xe := E }
abbrev Cx.nox (X : Cx) : Cx := X.wish fun _ _ => False
theorem Cx.Ok.wish {X : Cx} (ok : X.Ok) (E : Value -> Shared -> Prop) : (X.wish E).Ok :=
  ⟨ok.mod, ok.kind, ok.glob, ok.blt, ok.above, ok.inj, ok.has, ok.cab, ok.hd, ok.frames, ok.stk, ok.exf, ok.bs, ok.bsz, ok.noex, ok.exfs, ok.funs, ok.frf⟩
theorem Cx.Ok.unwish {X : Cx} {E : Value -> Shared -> Prop} (ok : (X.wish E).Ok) : X.Ok :=
  ⟨ok.mod, ok.kind, ok.glob, ok.blt, ok.above, ok.inj, ok.has, ok.cab, ok.hd, ok.frames, ok.stk, ok.exf, ok.bs, ok.bsz, ok.noex, ok.exfs, ok.funs, ok.frf⟩
section
variable {X : Cx} {pins : List (Addr × Obj)} {σ : St} {H : Hp} {s : Shared} {E : Value -> Shared -> Prop}
theorem Inv.wish (I : Inv X pins σ H s) (E : Value -> Shared -> Prop) : Inv (X.wish E) pins σ H s := ⟨I.ok.wish E, I.os, I.bare, I.base, I.loc, I.cell, I.free, I.freeC, I.pin, I.hok, I.len⟩
theorem Inv.unwish (I : Inv (X.wish E) pins σ H s) : Inv X pins σ H s := ⟨I.ok.unwish, I.os, I.bare, I.base, I.loc, I.cell, I.free, I.freeC, I.pin, I.hok, I.len⟩
theorem SP.unwish {D : Ends} {f : Flow} {s' : Shared} (h : SP (X.wish E) pins D f s') : SP X pins D f s' := by
  cases f with
  | next => obtain ⟨σ', H', I, q⟩ := h; exact ⟨σ', H', I.unwish, q⟩
  | brk => obtain ⟨σ', H', I, q⟩ := h; exact ⟨σ', H', I.unwish, q⟩
  | cont => obtain ⟨σ', H', I, q⟩ := h; exact ⟨σ', H', I.unwish, q⟩
  | ret u => obtain ⟨v, σ', H', I, r, q⟩ := h; exact ⟨v, σ', H', I.unwish, r, q⟩
theorem PE.nox {e : Expr} {t : TE} (h : PE X.nox e t) : PE X e t := fun pins s σ H Q I hw =>
  wpAny_mono (h pins s σ H Q (I.wish _) hw) (fun _ _ ⟨v, H', I', r, q⟩ => ⟨v, H', I'.unwish, r, q⟩) fun _ _ z => False.elim z
theorem PT.nox {e : Expr} {t : TT} (h : PT X.nox e t) : PT X e t := fun pins s σ H Q I hw =>
  wpAny_mono (h pins s σ H Q (I.wish _) hw) (fun _ _ ⟨H', I', q⟩ => ⟨H', I'.unwish, q⟩) fun _ _ z => False.elim z
theorem PSs.nox {st : List Stmt} {t : TS} (h : PSs X.nox st t) : PSs X st t := fun pins s σ H D I hw =>
  wpAny_mono (h pins s σ H D (I.wish _) hw) (fun _ _ q => q.unwish) fun _ _ z => False.elim z
end
section
variable {X : Cx} {st : Stmt} {rest : List Stmt} {t u : TS} {e : Expr} {te : TE} {pos : Pos}
def tNext : TS := fun D σ H => D.nx σ H
def tSeq (t u : TS) : TS := fun D σ H => t { D with nx := u D } σ H
theorem zzy : PSs X [] tNext := fun _ _ σ H _ I h => wpAny_execs_nil ⟨σ, H, I, h⟩
theorem zxd (h1 : PS X st t) (h2 : PSs X rest u) : PSs X (st :: rest) (tSeq t u) := by
  intro pins s σ H D I h
  refine wpAny_execs_cons (thn (h1 pins s σ H { D with nx := u D } I h) fun f s1 q => ?_)
  cases f with
  | next =>
    obtain ⟨σ', H', I', q⟩ := q
    exact h2 pins s1 σ' H' D I' q
  | ret v => exact q
  | brk => exact q
  | cont => exact q
theorem zzz : PS X (.Pass pos) tNext := fun _ _ σ H _ I h => wpAny_Pass ⟨σ, H, I, h⟩
theorem Inv.quiet {pins : List (Addr × Obj)} {σ : St} {H : Hp} {s : Shared} (I : Inv X pins σ H s) : interactive X.env = false := by simp [interactive, I.ok.kind]
def tDrop (te : TE) : TS := fun D σ H => te σ H fun _ H1 => D.nx σ H1
theorem zsh (he : PE X e te) (hs : swapsWith e none pos.line X.env = pure false := by rfl) : PS X (.Expr e pos) (tDrop te) := by
  intro pins s σ H D I h
  exact wpAny_Expr_any (thn (he pins s σ H _ I h) fun v s1 ⟨x, H1, I1, r1, q1⟩ => ⟨σ, H1, I1, q1⟩) I.quiet hs
def tRet (te : TE) : TS := fun D σ H => te σ H D.rt
theorem ps_ret (he : PE X e te) : PS X (.Return (some e) pos) (tRet te) := by
  intro pins s σ H D I h
  exact wpAny_Return_some (thn (he pins s σ H _ I h) fun v s1 ⟨x, H1, I1, r1, q1⟩ => ⟨x, σ, H1, I1, r1, q1⟩)
def tIfS (c : TT) (t u : TS) : TS := fun D σ H => c σ H fun b H1 => if b = true then t D σ H1 else u D σ H1
theorem ps_if {c : Expr} {a b : List Stmt} {tc : TT} (hc : PT X c tc) (ha : PSs X a t) (hb : PSs X b u) : PS X (.If c a b pos) (tIfS tc t u) := by
  intro pins s σ H D I h
  refine wpAny_If (thn (hc pins s σ H _ I h) fun d s1 ⟨H1, I1, q1⟩ => ?_)
  cases d with
  | true => exact ha pins s1 σ H1 D I1 q1
  | false => exact hb pins s1 σ H1 D I1 q1
end
abbrev TG := V -> St -> Hp -> (St -> Hp -> Prop) -> Prop
abbrev TGs := List V -> St -> Hp -> (St -> Hp -> Prop) -> Prop
def PG (X : Cx) (target : Expr) (t : TG) : Prop :=
  ∀ (pins : List (Addr × Obj)) (s : Shared) (σ : St) (H : Hp) (v : V) (u : Value) (Q : St -> Hp -> Prop), Inv X pins σ H s -> RelV v u -> t v σ H Q ->
    wpAny (model X.prog X.w) X.A (assign target X.env u) (fun _ s' => ∃ σ' H', Inv X pins σ' H' s' /\ Q σ' H') X.xe s
def PGs (X : Cx) (ts : List Expr) (t : TGs) : Prop :=
  ∀ (pins : List (Addr × Obj)) (s : Shared) (σ : St) (H : Hp) (vs : List V) (us : List Value) (Q : St -> Hp -> Prop), Inv X pins σ H s -> Vals vs us -> t vs σ H Q ->
    wpAny (model X.prog X.w) X.A (assignInOrder ((assignEach ts X.env).map (·.2)) us) (fun _ s' => ∃ σ' H', Inv X pins σ' H' s' /\ Q σ' H') X.xe s
abbrev TSet := V -> V -> V -> Hp -> (Hp -> Prop) -> Prop
def PSet (X : Cx) (t : TSet) : Prop :=
  ∀ (pins : List (Addr × Obj)) (s : Shared) (σ : St) (H : Hp) (o i v : V) (ov iv u : Value) (Q : Hp -> Prop), Inv X pins σ H s -> RelV o ov -> RelV i iv -> RelV v u -> t o i v H Q ->
    wpAny (model X.prog X.w) X.A (setItem ov iv u) (fun _ s' => ∃ H', Inv X pins σ H' s' /\ Q H') X.xe s
section
variable {X : Cx} {pos : Pos}
def gName (i : Nat) : TG := fun v σ H Q => Q (σ.set i (some v)) H
theorem zsj {i : Nat} {x : Str} (hN : X.N.Nodup) (hi : X.N[i]? = some x) (hx : Loc X.env.scope x) (hf : X.fn x = true \/ X.env.scope.names.lookup x = some .local := by first | exact .inl rfl | exact .inr rfl | assumption) : PG X (.Name x pos) (gName i) := by
  intro pins s σ H v u Q I r h
  exact wpAny_assign_Name (zlq I hN hi hx r (fun s' I' => ⟨_, H, I', h⟩) hf)
def zah : TGs := fun vs σ H Q => vs = [] /\ Q σ H
def zab (t : TG) (u : TGs) : TGs := fun vs σ H Q => ∃ v r, vs = v :: r /\ t v σ H fun σ' H' => u r σ' H' Q
theorem zz4 : PGs X [] zah := by
  intro pins s σ H vs us Q I r h
  obtain ⟨e, h⟩ := h
  subst e
  cases r
  exact assignInOrder_nil ⟨σ, H, I, h⟩
theorem zxf {e : Expr} {es : List Expr} {t : TG} {u : TGs} (h1 : PG X e t) (h2 : PGs X es u)
    (hs : (assignEach (e :: es) X.env).map (·.2) = assign e X.env :: (assignEach es X.env).map (·.2) := by rfl) : PGs X (e :: es) (zab t u) := by
  intro pins s σ H vs us Q I r h
  obtain ⟨v, vr, e1, h⟩ := h
  subst e1
  cases r with
  | cons r rr =>
    rw [hs]
    refine assignInOrder_cons (thn (h1 pins s σ H _ _ _ I r h) fun _ s1 ⟨σ1, H1, I1, q1⟩ => ?_)
    exact h2 pins s1 σ1 H1 _ _ Q I1 rr q1
def zc2 (K : PySem.W.Frag) (n : Nat) (t : TGs) : TG := fun v σ H Q => ∃ a xs, v = .ref a /\ SqT K H a xs /\ xs.length = n /\ t xs σ H Q
theorem pg_tup {es : List Expr} {k : Nat} {t : TGs} {n : Nat} (hc : X.calm = true) (h : PGs X es t)
    (hn : (assignEach es X.env).length = n := by rfl) (hst : (assignEach es X.env).findIdx? (·.1) = none := by rfl) : PG X (.Tuple es k pos) (zc2 X.K n t) := by
  intro pins s σ H v u Q I r hw
  obtain ⟨a, xs, e1, hq, hl, hw⟩ := hw
  subst e1
  cases r
  obtain ⟨its, rv, ht, hz⟩ := I.tuple hq
  refine assign_Tuple_tuple (I.ok.hd hc) ht (by simp [hn, <- hl, rv.length]) hst fun h' hx => ?_
  have I1 : Inv X pins σ H { s with heap := h' } := I.kept (t' := s.toks) fun b o e => hx b o (Nat.ne_of_lt (Heap.lt_size e)) e
  exact h pins _ σ H xs _ Q I1 (by simpa using rv) hw
def gSub (to ti : TE) (t : TSet) : TG := fun v σ H Q => to σ H fun o H1 => ti σ H1 fun i H2 => t o i v H2 fun H3 => Q σ H3
theorem pg_sub {o i : Expr} {to ti : TE} {t : TSet} (ho : PE X o to) (hi : PE X i ti) (hs : PSet X t)
    (ha : ∀ v, assign (.Subscript o i pos) X.env v = (do
      let ov <- holding [v] (eval o X.env)
      let iv <- holding [v, ov] (eval i X.env)
      standAt pos
      holding [v, ov, iv] (setItem ov iv v)
      release [v, ov, iv] []) := by intro _; rfl) : PG X (.Subscript o i pos) (gSub to ti t) := by
  intro pins s σ H v u Q I r h
  rw [ha]
  refine wpAny_bind (wpAny_holding (thn (ho pins s σ H _ I h) fun ov s1 ⟨x, H1, I1, r1, q1⟩ => ?_))
  refine wpAny_bind (wpAny_holding (thn (hi pins s1 σ H1 _ I1 q1) fun iv s2 ⟨y, H2, I2, r2, q2⟩ => ?_))
  refine wpAny_bind (wpAny_standAt (wpAny_bind (wpAny_holding (thn (hs pins s2 σ H2 x y v ov iv u _ I2 r1 r2 r q2) fun _ s3 ⟨H3, I3, q3⟩ => ?_))))
  exact wpAny_release ⟨σ, H3, I3, q3⟩
def tAsg (te : TE) (g : TG) : TS := fun D σ H => te σ H fun x H1 => g x σ H1 D.nx
theorem zvb {tg e : Expr} {te : TE} {g : TG} (he : PE X e te) (hg : PG X tg g) (hs : swapsWithSole [tg] e pos.line X.env = pure false := by rfl) (hw : swappedStores [tg] e X.env = pure none := by rfl)
    (h1 : (assignEach [tg] X.env).map (·.2) = [assign tg X.env] := by rfl) : PS X (.Assign [tg] e pos) (tAsg te g) := by
  intro pins s σ H D I h
  refine wpAny_Assign_stores (thn (he pins s σ H _ I h) fun v s1 ⟨x, H1, I1, r1, q1⟩ => ?_) hs hw
  rw [h1]
  exact thn (hg pins s1 σ H1 x v _ I1 r1 q1) fun _ s2 q => q
def tPar (i j : Nat) (ta : TA) : TS := fun D σ H => ta σ H fun vs H1 => ∃ v w, vs = [v, w] /\ D.nx ((σ.set i (some v)).set j (some w)) H1
theorem ps_par {i j : Nat} {x y : Str} {a b : Expr} {ta : TA} {px py pt : Pos} {kt k2 pt2} (hc : X.calm = true) (hN : X.N.Nodup) (hi : X.N[i]? = some x) (hj : X.N[j]? = some y) (hij : i ≠ j)
    (hx : X.env.scope.names.lookup x = some .local) (hy : X.env.scope.names.lookup y = some .local) (ha : PA X [a, b] ta)
    (hw : swappedStores [.Tuple [.Name x px, .Name y py] kt pt] (.Tuple [a, b] k2 pt2) X.env = pure (some [x, y]))
    (hs : swapsWithSole [.Tuple [.Name x px, .Name y py] kt pt] (.Tuple [a, b] k2 pt2) pos.line X.env = pure false := by rfl) :
    PS X (.Assign [.Tuple [.Name x px, .Name y py] kt pt] (.Tuple [a, b] k2 pt2) pos) (tPar i j ta) := by
  intro pins s σ H D I h
  rw [exec_Assign_arm]
  refine wpAny_bind (wpAny_standAt ?_)
  rw [hs]
  refine wpAny_bind (wpAny_pure ?_)
  rw [if_neg (by decide)]
  refine wpAny_bind (Tuple_ (thn (ha _ pins s σ H _ I h) fun us s1 ⟨vs, H1, I1, r1, q1⟩ => ?_))
  obtain ⟨v, w, e1, q1⟩ := q1
  subst e1
  obtain ⟨u1, u2, rfl, rv, rw'⟩ : ∃ u1 u2, us = [u1, u2] /\ RelV v u1 /\ RelV w u2 := by
    cases r1 with
    | cons p q =>
      cases q with
      | cons p' q' =>
        cases q'
        exact ⟨_, _, rfl, p, p'⟩
  refine wpAny_newObj_type ?_ (by show 2 ≤ sizeLine; decide)
  have I2 : Inv X pins σ H1 { s1 with heap := s1.heap.push { cls := .type "tuple", data := .seq [u1, u2].toArray } } := I1.kept (t' := s1.toks) fun b o e => Heap.get?_push_of_some _ e
  rw [hw]
  refine wpAny_bind (wpAny_pure ?_)
  show wpAny (model X.prog X.w) X.A (do rule "assign.swapped-stores"; let items <- unpackItems (.ref s1.heap.objs.size) 2 none; assignInOrder [fun v => bindName X.env y v, fun v => bindName X.env x v] items.reverse; pure Flow.next) _ _ _
  refine wpAny_bind (wpAny_rule (wpAny_bind (unpackItems_tuple (items := #[u1, u2]) (I.ok.hd hc) (IsTup.new s1.heap _) fun h' hx' => ?_)))
  have I3 := I2.kept (h' := h') (t' := s1.toks) fun b o e => hx' b o (Nat.ne_of_lt (Heap.lt_size e)) e
  show wpAny _ _ (assignInOrder [fun v => bindName X.env y v, fun v => bindName X.env x v] [u2, u1] >>= fun _ => pure Flow.next) _ _ _
  refine wpAny_bind (assignInOrder_cons (wpAny_bindName (zlq I3 hN hj (.inl hy) rw' (fun s2 I4 => ?_) (.inr hy))))
  refine assignInOrder_cons (wpAny_bindName (zlq I4 hN hi (.inl hx) rv (fun s3 I5 => assignInOrder_nil (wpAny_pure ?_)) (.inr hx)))
  rw [List.set_comm _ _ (Ne.symm hij)] at I5
  exact ⟨_, H1, I5, q1⟩
end
section
variable {X : Cx} {pos : Pos}
end
structure It where
  go : Nat -> Hp -> Prop
  yld : Nat -> Hp -> V -> Hp -> Prop
  stop : Nat -> Hp -> Prop
def zgs (X : Cx) (pins : List (Addr × Obj)) (H : Hp) (b : Addr) : Prop :=
  H b = none /\ b ≠ X.env.locals /\ b ∉ X.fs /\ (b ∈ X.ex \/ X.s₀.heap.objs.size ≤ b) /\ (∀ x c, X.env.cells.lookup x = some c -> c ≠ b) /\ ∀ p ∈ X.pn ++ pins, p.1 ≠ b
theorem Inv.fpOk {X : Cx} {pins : List (Addr × Obj)} {σ : St} {H H' : Hp} {s : Shared} {b : Addr} (I : Inv X pins σ H s) (hb : s.heap.objs.size ≤ b) (hn : H' b = none) : zgs X pins H' b := by
  refine ⟨hn, Nat.ne_of_gt (Nat.lt_of_lt_of_le I.lt hb), I.nofs hb, .inr (Nat.le_trans I.sz hb), fun x c e z => ?_, fun p hp z => ?_⟩
  · obtain ⟨v, q⟩ := I.cell x c e
    exact absurd (Nat.lt_of_lt_of_le q.lt (by rw [z]; exact hb)) (Nat.lt_irrefl _)
  · exact absurd (Nat.lt_of_lt_of_le (Heap.lt_size (I.pin p hp).1) (by rw [z]; exact hb)) (Nat.lt_irrefl _)
structure Turn (P : Program) (w : World) (K : PySem.W.Frag) (tg : Expr) (J : It) (fp : List Addr) (it : Addr) (tn : Nat -> Heap -> Prop) : Prop where
  mem : it ∈ fp
  obj : ∀ i h, tn i h -> ∀ b ∈ fp, ∃ o, h.get? b = some o /\ ∀ v, o.data ≠ .cell v
  keep : ∀ i h h', tn i h -> (∀ b ∈ fp, ∀ o, h.get? b = some o -> h'.get? b = some o) -> tn i h'
  item : ∀ (X : Cx), X.prog = P -> X.w = w -> X.K = K -> X.calm = true -> ∀ (i : Nat) (pins : List (Addr × Obj)) (s : Shared) (σ : St) (H : Hp) (E : Value -> Shared -> Prop), Inv X pins σ H s -> (∀ b ∈ fp, zgs X pins H b) -> tn i s.heap -> J.go i H ->
    wpAny (model P w) X.A (pyNext (.ref it)) (fun r s1 => ∃ u, r = some u /\
      wpAny (model P w) X.A (letOwnedTupleGo tg (.ref it) u) (fun _ s2 => ∃ x H', Inv X pins σ H' s2 /\ RelV x u /\ J.yld i H x H' /\ tn (i + 1) s2.heap /\ ∀ b ∈ fp, H' b = none) E s1) E s
  done : ∀ (X : Cx), X.prog = P -> X.w = w -> X.K = K -> X.calm = true -> ∀ (i : Nat) (pins : List (Addr × Obj)) (s : Shared) (σ : St) (H : Hp) (E : Value -> Shared -> Prop), Inv X pins σ H s -> (∀ b ∈ fp, zgs X pins H b) -> tn i s.heap -> J.stop i H ->
    wpAny (model P w) X.A (pyNext (.ref it)) (fun r s1 => r = none /\ Inv X pins σ H s1) E s
  self : ∀ (A : Around) (i : Nat) (s : Shared) (Q : Value -> Shared -> Prop) (E : Value -> Shared -> Prop), tn i s.heap -> Q (.ref it) s -> wpAny (model P w) A (pyIter (.ref it)) Q E s
abbrev TI := St -> Hp -> (It -> Hp -> Prop) -> Prop
def PIE (X : Cx) (pins : List (Addr × Obj)) (σ : St) (tg : Expr) (R : It -> Hp -> Prop) (itv : Value) (s2 : Shared) : Prop :=
  ∃ (it : Addr) (fp : List Addr) (tn : Nat -> Heap -> Prop) (J : It) (H' : Hp), itv = .ref it /\ Inv X pins σ H' s2 /\ Turn X.prog X.w X.K tg J fp it tn /\ tn 0 s2.heap /\ (∀ b ∈ fp, zgs X pins H' b) /\ R J H'
def PI (X : Cx) (tg iter : Expr) (wi : TI) : Prop :=
  ∀ (pins : List (Addr × Obj)) (s : Shared) (σ : St) (H : Hp) (R : It -> Hp -> Prop), Inv X pins σ H s -> wi σ H R ->
    wpAny (model X.prog X.w) X.A (eval iter X.env) (fun v s1 => wpAny (model X.prog X.w) X.A (pyIter v) (PIE X pins σ tg R) X.xe s1) X.xe s
theorem ztu {M : Model} {A : Around} {E : Value -> Shared -> Prop} {s : Shared} {tg : Expr} {it : Addr} {u : Value} {o : Obj} {n : String} {vs : Array Value} {Q : Unit -> Shared -> Prop} (ho : s.heap.get? it = some o) (hc : o.cls = .type n) (hd : o.data = .fields vs)
    (hn : ["enumerate", "zip", "dict_itemiterator", "dict_reverseitemiterator", "odict_iterator", "itertools.zip_longest", "itertools.pairwise"].contains n = false) (hQ : Q () s) : wpAny M A (letOwnedTupleGo tg (.ref it) u) Q E s := by
  unfold letOwnedTupleGo
  cases tg <;> first
    | exact wpAny_pure hQ
    | (cases u <;> first
        | exact wpAny_pure hQ
        | (refine wpAny_bind (wpAny_load ho ?_)
           rw [hc, hd]
           show wpAny M A (if (["enumerate", "zip", "dict_itemiterator", "dict_reverseitemiterator", "odict_iterator", "itertools.zip_longest", "itertools.pairwise"].contains n && vs[0]? == some (rawInt _)) = true then _ else _) Q E s
           rw [if_neg (by intro h; rw [hn, Bool.false_and] at h; cases h)]
           exact wpAny_pure hQ))
def Itl (K : PySem.W.Frag) (a : Addr) : It :=
  ⟨fun i H => ∃ xs x, SqL K H a xs /\ xs[i]? = some x, fun i H x H' => H' = H /\ ∀ xs, SqL K H a xs -> xs[i]? = some x, fun i H => ∃ xs, SqL K H a xs /\ xs.length ≤ i⟩
def Itt (K : PySem.W.Frag) (a : Addr) : It :=
  ⟨fun i H => ∃ xs x, SqT K H a xs /\ xs[i]? = some x, fun i H x H' => H' = H /\ ∀ xs, SqT K H a xs -> xs[i]? = some x, fun i H => ∃ xs, SqT K H a xs /\ xs.length ≤ i⟩
def Itr (lo : Int) (n : Nat) : It := ⟨fun i _ => i < n, fun i H x H' => H' = H /\ x = .int (lo + i), fun i _ => n ≤ i⟩
theorem zug {P : Program} {w : World} {K : PySem.W.Frag} {tg : Expr} (a it : Addr) : Turn P w K tg (Itl K a) [it] it (fun i h => h.IsListIter it a i) where
  mem := by simp
  obj := fun i h st b hb => by
    have e : b = it := by simpa using hb
    subst e
    obtain ⟨o, e, c, d⟩ := st
    exact ⟨o, e, fun v z => by rw [d] at z; cases z⟩
  keep := fun i h h' st k => st.at fun o e => k it (by simp) o e
  item := by
    intro X hP hw hK hc i pins s σ H E I hf st hg
    subst hP hw hK
    obtain ⟨xs, x, hq, hx⟩ := hg
    obtain ⟨its, rv, p, hz⟩ := I.list hq
    obtain ⟨u, hu, ru⟩ := rv.get hx
    obtain ⟨f0, f1, f2, f3, f4, f5⟩ := hf it (by simp)
    refine wpAny_pyNext_list_item st p.isList (x := u) (by simpa using hu) fun h' st' sb => ?_
    have I1 : Inv X pins σ H { s with heap := h' } := I.turned (t' := s.toks) (fun b o hb e => (sb.2 b hb).trans e) f0 f1 f3 f4 f5
    obtain ⟨o, e, c, d⟩ := id st'
    exact ⟨u, rfl, ztu (s := { s with heap := h' }) e c d (by decide) ⟨x, H, I1, ru, ⟨rfl, fun ys hy => by rw [I.list_inj hy hq]; exact hx⟩, st', fun b hb => (hf b hb).1⟩⟩
  done := by
    intro X hP hw hK hc i pins s σ H E I hf st hg
    subst hP hw hK
    obtain ⟨xs, hq, hx⟩ := hg
    obtain ⟨its, rv, p, hz⟩ := I.list hq
    obtain ⟨f0, f1, f2, f3, f4, f5⟩ := hf it (by simp)
    have hl := rv.length
    exact wpAny_pyNext_list_end (I.ok.hd hc) st p.isList (by simp; omega) fun h' eb => ⟨rfl, I.turned (t' := s.toks) (fun b o hb e => eb b o hb e) f0 f1 f3 f4 f5⟩
  self := fun _ _ _ _ _ st h => wpAny_pyIter_listiter st h
theorem zsv {P : Program} {w : World} {K : PySem.W.Frag} {tg : Expr} (a it : Addr) : Turn P w K tg (Itt K a) [it] it (fun i h => h.IsTupleIter it a i) where
  mem := by simp
  obj := fun i h st b hb => by
    have e : b = it := by simpa using hb
    subst e
    obtain ⟨o, e, c, d⟩ := st
    exact ⟨o, e, fun v z => by rw [d] at z; cases z⟩
  keep := fun i h h' st k => st.at fun o e => k it (by simp) o e
  item := by
    intro X hP hw hK hc i pins s σ H E I hf st hg
    subst hP hw hK
    obtain ⟨xs, x, hq, hx⟩ := hg
    obtain ⟨its, rv, p, hz⟩ := I.tuple hq
    obtain ⟨u, hu, ru⟩ := rv.get hx
    obtain ⟨f0, f1, f2, f3, f4, f5⟩ := hf it (by simp)
    refine wpAny_pyNext_tuple_item st (show s.heap.IsTuple a its.toArray from p) (x := u) (by simpa using hu) fun h' st' sb => ?_
    have I1 : Inv X pins σ H { s with heap := h' } := I.turned (t' := s.toks) (fun b o hb e => (sb.2 b hb).trans e) f0 f1 f3 f4 f5
    obtain ⟨o, e, c, d⟩ := id st'
    exact ⟨u, rfl, ztu (s := { s with heap := h' }) e c d (by decide) ⟨x, H, I1, ru, ⟨rfl, fun ys hy => by rw [I.tuple_inj hy hq]; exact hx⟩, st', fun b hb => (hf b hb).1⟩⟩
  done := by
    intro X hP hw hK hc i pins s σ H E I hf st hg
    subst hP hw hK
    obtain ⟨xs, hq, hx⟩ := hg
    obtain ⟨its, rv, p, hz⟩ := I.tuple hq
    obtain ⟨f0, f1, f2, f3, f4, f5⟩ := hf it (by simp)
    have hl := rv.length
    exact wpAny_pyNext_tuple_end (I.ok.hd hc) st (show s.heap.IsTuple a its.toArray from p) (by simp; omega) fun h' eb => ⟨rfl, I.turned (t' := s.toks) (fun b o hb e => eb b o hb e) f0 f1 f3 f4 f5⟩
  self := fun _ _ _ _ _ st h => wpAny_pyIter_tupleiter st h
theorem zsw {P : Program} {w : World} {K : PySem.W.Frag} {tg : Expr} (it : Addr) (lo : Int) (n : Nat) : Turn P w K tg (Itr lo n) [it] it (fun i h => IsRangeIter h it (lo + (i : Nat) * 1) ((n : Int) - (i : Nat)) 1) where
  mem := by simp
  obj := fun i h st b hb => by
    have e : b = it := by simpa using hb
    subst e
    exact ⟨_, st, fun v z => by
      have z' : Data.fields _ = Data.cell v := z
      cases z'⟩
  keep := fun i h h' st k => k it (by simp) _ st
  item := by
    intro X hP hw hK hc i pins s σ H E I hf st hg
    subst hP hw hK
    obtain ⟨f0, f1, f2, f3, f4, f5⟩ := hf it (by simp)
    have W := Walks.range (prog := X.prog) (w := X.w) (I.ok.hd hc) it lo 1 n
    refine W.item i s _ _ hg st fun v h' tk hv st' kk => ?_
    obtain ⟨t, rfl⟩ := hv
    have I1 : Inv X pins σ H { s with heap := h', toks := tk } := I.turned (fun b o hb e => kk b o (by simpa using hb) e) f0 f1 f3 f4 f5
    refine ⟨_, rfl, ztu (s := { s with heap := h', toks := tk }) (n := "range_iterator") st' rfl rfl (by decide) ⟨.int (lo + i), H, I1, ⟨t, ?_⟩, ⟨rfl, rfl⟩, st', fun b hb => (hf b hb).1⟩⟩
    rw [Int.mul_one]
  done := by
    intro X hP hw hK hc i pins s σ H E I hf st hg
    subst hP hw hK
    obtain ⟨f0, f1, f2, f3, f4, f5⟩ := hf it (by simp)
    exact wpAny_pyNext_range_end (I.ok.hd hc) st (by have : n ≤ i := hg; omega) fun h' eb => ⟨rfl, I.turned (t' := s.toks) (fun b o hb e => eb b o hb e) f0 f1 f3 f4 f5⟩
  self := fun _ _ _ _ _ st h => wpAny_pyIter_rangeiter st h
end L2
namespace L2
open PySem PySem.Spec PyProof.Rows
section
variable {X : Cx} {tg : Expr}
def iList (K : PySem.W.Frag) (tl : TE) : TI := fun σ H R => tl σ H fun x H1 => ∃ a, x = .ref a /\ (∃ xs, SqL K H1 a xs) /\ R (Itl K a) H1
def iTup (K : PySem.W.Frag) (tl : TE) : TI := fun σ H R => tl σ H fun x H1 => ∃ a, x = .ref a /\ (∃ xs, SqT K H1 a xs) /\ R (Itt K a) H1
theorem zz3 {l : Expr} {tl : TE} (hl : PE X l tl) : PI X tg l (iList X.K tl) := by
  intro pins s σ H R I h
  refine thn (hl pins s σ H _ I h) fun v s1 ⟨x, H1, I1, r1, q1⟩ => ?_
  obtain ⟨a, e, ⟨xs, hq⟩, q⟩ := q1
  subst e
  cases r1
  obtain ⟨its, rv, p, hz⟩ := I1.list hq
  refine wpAny_pyIter_list p.isList ?_
  refine ⟨s1.heap.objs.size, [s1.heap.objs.size], _, _, H1, rfl, I1.kept (t' := s1.toks) fun b o e => Heap.get?_push_of_some _ e, zug a _, ⟨_, Heap.get?_push_size _ rfl, rfl, rfl⟩, fun b hb => ?_, q⟩
  have e : b = s1.heap.objs.size := by simpa using hb
  subst e
  exact I1.fpOk (Nat.le_refl _) (I1.hok.fresh (Nat.le_refl _))
theorem pi_tup {l : Expr} {tl : TE} (hl : PE X l tl) : PI X tg l (iTup X.K tl) := by
  intro pins s σ H R I h
  refine thn (hl pins s σ H _ I h) fun v s1 ⟨x, H1, I1, r1, q1⟩ => ?_
  obtain ⟨a, e, ⟨xs, hq⟩, q⟩ := q1
  subst e
  cases r1
  obtain ⟨its, rv, p, hz⟩ := I1.tuple hq
  refine wpAny_pyIter_tuple (show s1.heap.IsTuple a its.toArray from p) ?_
  refine ⟨s1.heap.objs.size, [s1.heap.objs.size], _, _, H1, rfl, I1.kept (t' := s1.toks) fun b o e => Heap.get?_push_of_some _ e, zsv a _, ⟨_, Heap.get?_push_size _ rfl, rfl, rfl⟩, fun b hb => ?_, q⟩
  have e : b = s1.heap.objs.size := by simpa using hb
  subst e
  exact I1.fpOk (Nat.le_refl _) (I1.hok.fresh (Nat.le_refl _))
theorem zxa {pins : List (Addr × Obj)} {σ : St} {H : Hp} {s : Shared} {R : It -> Hp -> Prop} {E : Value -> Shared -> Prop} {lo hi : Int} {t u v : Tok} {tk : Nat} (I : Inv X pins σ H s) (h1 : -(2 ^ 62) ≤ lo) (h2 : lo < 2 ^ 62) (h3 : -(2 ^ 62) ≤ hi) (h4 : hi < 2 ^ 62)
    (q : R (Itr lo (hi - lo).toNat) H) : wpAny (model X.prog X.w) X.A (pyIter (.ref s.heap.objs.size)) (PIE X pins σ tg R) E { s with heap := s.heap.push { cls := .type "range", data := .fields #[.int lo t, .int hi u, .int 1 v] }, toks := tk } := by
  refine wpAny_pyIter_range (IsRange.new ..) (small_one h1 h2 h3 h4) ?_
  have I1 : Inv X pins σ H { s with heap := s.heap.push { cls := .type "range", data := .fields #[.int lo t, .int hi u, .int 1 v] }, toks := tk } := I.kept fun b o e => Heap.get?_push_of_some _ e
  refine ⟨(s.heap.push { cls := .type "range", data := .fields #[.int lo t, .int hi u, .int 1 v] }).objs.size, [(s.heap.push { cls := .type "range", data := .fields #[.int lo t, .int hi u, .int 1 v] }).objs.size], _, _, H, rfl,
    I1.kept (t' := tk) fun b o e => Heap.get?_push_of_some _ e, zsw _ lo (hi - lo).toNat, ?_, fun b hb => ?_, q⟩
  · have e1 : lo + ((0 : Nat) : Int) * 1 = lo := by simp
    have e2 : (((hi - lo).toNat : Nat) : Int) - ((0 : Nat) : Int) = Builtin.Range.rangeSize lo hi 1 := by rw [rangeSize_one]; split <;> omega
    show IsRangeIter _ _ (lo + ((0 : Nat) : Int) * 1) ((((hi - lo).toNat : Nat) : Int) - ((0 : Nat) : Int)) 1
    rw [e1, e2]
    exact Heap.get?_push_size _ rfl
  · have e : b = (s.heap.push { cls := .type "range", data := .fields #[.int lo t, .int hi u, .int 1 v] }).objs.size := by simpa using hb
    subst e
    exact I1.fpOk (Nat.le_refl _) (I1.hok.fresh (Nat.le_refl _))
def iRng1 (ta : TA) : TI := fun σ H R => ta σ H fun vs H1 => ∃ j : Int, vs = [.int j] /\ -(2 ^ 62) ≤ j /\ j < 2 ^ 62 /\ R (Itr 0 j.toNat) H1
theorem zvd {a : Expr} {ta : TA} {p pos : Pos} (hg : Gl X "range") (hm : X.mg "range" = none) (ha : PA X [a] ta) (hs : starEach [a] X.env = [(false, eval a X.env)] := by rfl) : PI X tg (.Call (.Name "range" p) [a] [] pos) (iRng1 ta) := by
  intro pins s σ H R I h
  refine Call_ (zhy I hg hm boot_range (PyProof.Rows.callWith_type1 (thn (ha pos pins s σ H _ I h) fun us s1 ⟨vs, H1, I1, r1, q1⟩ => ?_) hs rfl))
  obtain ⟨j, e, q1, q2, q⟩ := q1
  subst e
  cases r1 with
  | cons r rr =>
    cases rr
    obtain ⟨t, rfl⟩ := r
    exact call_range_1 (zxa I1 (by omega) (by omega) q1 q2 (by simpa using q))
def tFor (wi : TI) (g : TG) (tb : TS) : TS := fun D σ H => wi σ H fun J H1 => ∃ W : Nat -> Nat -> St -> Hp -> Prop, (∃ m, W 0 m σ H1) /\ ∀ i m σ H, W i m σ H ->
  (J.stop i H /\ D.nx σ H) \/ (J.go i H /\ ∃ N : St -> Hp -> Prop, (∀ σ' H', N σ' H' -> ∃ m', m' < m /\ W (i + 1) m' σ' H') /\ ∀ x H', J.yld i H x H' -> g x σ H' fun σ2 H2 => tb { D with nx := N, ct := N, bk := D.nx } σ2 H2)
def zmq (fp : List Addr) (h : Heap) : List (Addr × Obj) := fp.filterMap fun b => (h.get? b).map fun o => (b, o)
theorem zh8 {fp : List Addr} {h : Heap} {b : Addr} {o : Obj} (hb : b ∈ fp) (e : h.get? b = some o) : (b, o) ∈ zmq fp h := List.mem_filterMap.mpr ⟨b, hb, by rw [e]; rfl⟩
theorem zvt {fp : List Addr} {h : Heap} {p : Addr × Obj} (hp : p ∈ zmq fp h) : p.1 ∈ fp /\ h.get? p.1 = some p.2 := by
  obtain ⟨b, hb, e⟩ := List.mem_filterMap.mp hp
  cases q : h.get? b with
  | none => rw [q] at e; cases e
  | some o =>
    rw [q] at e
    have e' : (b, o) = p := Option.some.inj e
    subst e'
    exact ⟨hb, q⟩
theorem Inv.pinned {pins : List (Addr × Obj)} {σ : St} {H : Hp} {s : Shared} {fp : List Addr} (I : Inv X pins σ H s) (hf : ∀ b ∈ fp, zgs X pins H b) (ho : ∀ b ∈ fp, ∃ o, s.heap.get? b = some o /\ ∀ v, o.data ≠ .cell v) : Inv X (pins ++ zmq fp s.heap) σ H s :=
  I.pins_of fun p hp => (List.mem_append.mp hp).elim (fun z => I.pin p (List.mem_append_right _ z)) fun z => by
    obtain ⟨hb, e⟩ := zvt z
    obtain ⟨f0, f1, f2, _⟩ := hf p.1 hb
    obtain ⟨o, e', d⟩ := ho p.1 hb
    rw [e] at e'; cases e'
    exact ⟨e, f0, f1, f2, d⟩
theorem Inv.unpinned {pins pl : List (Addr × Obj)} {σ : St} {H : Hp} {s : Shared} (I : Inv X (pins ++ pl) σ H s) : Inv X pins σ H s := I.pins_of fun p hp => I.pin p (List.mem_append_right _ (List.mem_append_left _ hp))
theorem ps_for {iter : Expr} {body : List Stmt} {wi : TI} {g : TG} {tb : TS} {pos : Pos} (hp : PassesOwn (model X.prog X.w) X.A X.env X.xe) (hc : X.calm = true) (hi : PI X tg iter wi) (hg : PG X tg g) (hb : PSs X body tb)
    (hs : ∀ x, foldedSetIterable iter X.env x = pure x := by intro _; rfl) : PS X (.For tg iter body [] pos) (tFor wi g tb) := by
  intro pins s σ H D I h
  refine wpAny_For (thn (hi pins s σ H _ I h) fun v s1 h1 => thn h1 fun itv s2 h2 => ?_) hs
  obtain ⟨it, fp, tn, J, H2, e, I2, T, st2, f2, W, ⟨m0, w0⟩, turn⟩ := h2
  subst e
  have stat : ∀ {H' : Hp}, (∀ b ∈ fp, H' b = none) -> ∀ b ∈ fp, zgs X pins H' b := fun hn b hb => ⟨hn b hb, (f2 b hb).2⟩
  refine codeAny_forLoop_any (fun n s' => ∃ i σ' H', Inv X pins σ' H' s' /\ tn i s'.heap /\ (∀ b ∈ fp, H' b = none) /\ W i n σ' H') ?_ m0 ⟨0, σ, H2, I2, st2, fun b hb => (f2 b hb).1, w0⟩
  rintro n s3 ⟨i, σ3, H3, I3, st3, fr3, w3⟩
  rcases turn i n σ3 H3 w3 with ⟨stop, qn⟩ | ⟨go, N, hN, step⟩
  · refine wpAny_passesOwn hp (thn (T.done X rfl rfl rfl hc i pins s3 σ3 H3 X.xe I3 (stat fr3) st3 stop) fun r s4 ⟨hr, I4⟩ => ?_)
    subst hr
    exact wpAny_execs_nil ⟨σ3, H3, I4, qn⟩
  · refine wpAny_passesOwn hp (thn (T.item X rfl rfl rfl hc i pins s3 σ3 H3 X.xe I3 (stat fr3) st3 go) fun r s4 ⟨u, hr, h4⟩ => ?_)
    subst hr
    refine wpAny_passesOwn hp (thn h4 fun _ s5 ⟨x, H5, I5, r5, y5, st5, fr5⟩ => ?_)
    have I5' := I5.pinned (stat fr5) (T.obj _ _ st5)
    refine wpAny_passesOwn hp (thn (hg _ s5 σ3 H5 x u _ I5' r5 (step x H5 y5)) fun _ s6 ⟨σ6, H6, I6, q6⟩ => ?_)
    refine wpAny_passesOwn hp (thn (hb _ s6 σ6 H6 _ I6 q6) fun f s7 q7 => ?_)
    have again : ∀ {σ7 : St} {H7 : Hp}, Inv X (pins ++ zmq fp s5.heap) σ7 H7 s7 -> N σ7 H7 -> ∃ m, m < n /\ ∃ i σ' H', Inv X pins σ' H' s7 /\ tn i s7.heap /\ (∀ b ∈ fp, H' b = none) /\ W i m σ' H' := fun {σ7 H7} I7 n7 => by
      obtain ⟨m', hm, w7⟩ := hN σ7 H7 n7
      refine ⟨m', hm, i + 1, σ7, H7, I7.unpinned, T.keep _ _ _ st5 fun b hb o e => (I7.pin (b, o) (List.mem_append_right _ (List.mem_append_right _ (zh8 hb e)))).1, fun b hb => ?_, w7⟩
      obtain ⟨o, e, d⟩ := T.obj _ _ st5 b hb
      exact (I7.pin (b, o) (List.mem_append_right _ (List.mem_append_right _ (zh8 hb e)))).2.1
    cases f with
    | next => obtain ⟨σ7, H7, I7, n7⟩ := q7; exact again I7 n7
    | cont => obtain ⟨σ7, H7, I7, n7⟩ := q7; exact again I7 n7
    | brk => obtain ⟨σ7, H7, I7, q7⟩ := q7; exact ⟨σ7, H7, I7.unpinned, q7⟩
    | ret v => obtain ⟨x7, σ7, H7, I7, r7, q7⟩ := q7; exact ⟨x7, σ7, H7, I7.unpinned, r7, q7⟩
end
end L2
namespace L2
open PySem PySem.Spec PyProof.Rows
abbrev R2 := V -> V -> Hp -> VK -> Prop
def OpR (X : Cx) (f : Value -> Value -> Sem Value) (r : R2) : Prop :=
  ∀ (pins : List (Addr × Obj)) (s : Shared) (σ : St) (H : Hp) (x y : V) (v u : Value) (Q : VK), Inv X pins σ H s -> RelV x v -> RelV y u -> r x y H Q ->
    wpAny (model X.prog X.w) X.A (f v u) (EP X pins σ Q) X.xe s
def UnR (X : Cx) (f : Value -> Sem Value) (r : V -> Hp -> VK -> Prop) : Prop :=
  ∀ (pins : List (Addr × Obj)) (s : Shared) (σ : St) (H : Hp) (x : V) (v : Value) (Q : VK), Inv X pins σ H s -> RelV x v -> r x H Q ->
    wpAny (model X.prog X.w) X.A (f v) (EP X pins σ Q) X.xe s
def zdr (X : Cx) (f : Value) (r : List V -> Hp -> VK -> Prop) : Prop :=
  ∀ (pins : List (Addr × Obj)) (s : Shared) (σ : St) (H : Hp) (xs : List V) (us : List Value) (Q : VK), Inv X pins σ H s -> Vals xs us -> r xs H Q ->
    wpAny (model X.prog X.w) X.A (call f us) (EP X pins σ Q) X.xe s
def TruR (X : Cx) (r : V -> Hp -> (Bool -> Hp -> Prop) -> Prop) : Prop :=
  ∀ (pins : List (Addr × Obj)) (s : Shared) (σ : St) (H : Hp) (x : V) (v : Value) (Q : Bool -> Hp -> Prop), Inv X pins σ H s -> RelV x v -> r x H Q ->
    wpAny (model X.prog X.w) X.A (truthy v) (TP X pins σ Q) X.xe s
def tOp (r : R2) (ta tb : TE) : TE := fun σ H Q => ta σ H fun x H1 => tb σ H1 fun y H2 => r x y H2 Q
def tUn (r : V -> Hp -> VK -> Prop) (ta : TE) : TE := fun σ H Q => ta σ H fun x H1 => r x H1 Q
def rI (C : Int -> Int -> Prop) (g : Int -> Int -> V) : R2 := fun x y H Q => ∃ i j, x = .int i /\ y = .int j /\ C i j /\ Q (g i j) H
def rI0 (g : Int -> Int -> V) : R2 := fun x y H Q => ∃ i j, x = .int i /\ y = .int j /\ Q (g i j) H
def rU (g : Int -> V) : V -> Hp -> VK -> Prop := fun x H Q => ∃ i, x = .int i /\ Q (g i) H
section
variable {X : Cx} {a b c : Expr} {ta tb tc : TE} {pos : Pos}
theorem binT (ha : PE X a ta) (hb : PE X b tb) {pins : List (Addr × Obj)} {s : Shared} {σ : St} {H : Hp} {R : V -> V -> Hp -> Prop} (I : Inv X pins σ H s)
    (h : ta σ H fun x H1 => tb σ H1 fun y H2 => R x y H2) {Q : Value -> Shared -> Prop} {f : Value -> Value -> Sem Value}
    (hf : ∀ v u s2 x y H2, Inv X pins σ H2 s2 -> RelV x v -> RelV y u -> R x y H2 -> wpAny (model X.prog X.w) X.A (f v u) Q X.xe s2) :
    wpAny (model X.prog X.w) X.A (eval a X.env) (fun v s₁ => wpAny (model X.prog X.w) X.A (eval b X.env) (fun u s₂ => wpAny (model X.prog X.w) X.A (f v u) Q X.xe s₂) X.xe s₁) X.xe s := by
  refine thn (ha pins s σ H _ I h) fun v s1 ⟨x, H1, I1, r1, q1⟩ => ?_
  refine thn (hb pins s1 σ H1 _ I1 q1) fun u s2 ⟨y, H2, I2, r2, q2⟩ => ?_
  exact hf v u s2 x y H2 I2 r1 r2 q2
theorem pe_op {op : Operator} {r : R2} (ho : OpR X (binaryOp op) r) (ha : PE X a ta) (hb : PE X b tb) : PE X (.BinOp a op b pos) (tOp r ta tb) := by
  intro pins s σ H Q I h
  exact wpAny_BinOp (binT ha hb I h fun v u s2 x y H2 I2 rx ry q => ho pins s2 σ H2 x y v u Q I2 rx ry q)
theorem pe_un {op : UnaryOp} {r : V -> Hp -> VK -> Prop} (ho : UnR X (unaryOp op) r) (ha : PE X a ta) : PE X (.UnaryOp op a pos) (tUn r ta) := by
  intro pins s σ H Q I h
  exact UnaryOp_ (thn (ha pins s σ H _ I h) fun v s1 ⟨x, H1, I1, r1, q1⟩ => ho pins s1 σ H1 x v Q I1 r1 q1)
theorem opI {f : Value -> Value -> Sem Value} {C : Int -> Int -> Prop} {g : Int -> Int -> Int}
    (rule : ∀ (i j : Int) (t u : Tok) (s : Shared) (Q : Value -> Shared -> Prop) (E : Value -> Shared -> Prop), C i j -> Q (.int (g i j) s.toks) { s with toks := s.toks + 1 } -> wpAny (model X.prog X.w) X.A (f (.int i t) (.int j u)) Q E s) :
    OpR X f (rI C fun i j => .int (g i j)) := by
  intro pins s σ H x y v u Q I rx ry h
  obtain ⟨i, j, rfl, rfl, hc, q⟩ := h
  obtain ⟨t, rfl⟩ := rx
  obtain ⟨t', rfl⟩ := ry
  exact rule i j t t' s _ _ hc ⟨.int (g i j), H, I.tok _, ⟨_, rfl⟩, q⟩
theorem opI0 {f : Value -> Value -> Sem Value} {g : Int -> Int -> Int}
    (rule : ∀ (i j : Int) (t u : Tok) (s : Shared) (Q : Value -> Shared -> Prop) (E : Value -> Shared -> Prop), Q (.int (g i j) s.toks) { s with toks := s.toks + 1 } -> wpAny (model X.prog X.w) X.A (f (.int i t) (.int j u)) Q E s) :
    OpR X f (rI0 fun i j => .int (g i j)) := by
  intro pins s σ H x y v u Q I rx ry h
  obtain ⟨i, j, rfl, rfl, q⟩ := h
  obtain ⟨t, rfl⟩ := rx
  obtain ⟨t', rfl⟩ := ry
  exact rule i j t t' s _ _ ⟨.int (g i j), H, I.tok _, ⟨_, rfl⟩, q⟩
theorem opB0 {f : Value -> Value -> Sem Value} {g : Int -> Int -> Bool}
    (rule : ∀ (i j : Int) (t u : Tok) (s : Shared) (Q : Value -> Shared -> Prop) (E : Value -> Shared -> Prop), Q (.bool (g i j)) s -> wpAny (model X.prog X.w) X.A (f (.int i t) (.int j u)) Q E s) :
    OpR X f (rI0 fun i j => .bl (g i j)) := by
  intro pins s σ H x y v u Q I rx ry h
  obtain ⟨i, j, rfl, rfl, q⟩ := h
  obtain ⟨t, rfl⟩ := rx
  obtain ⟨t', rfl⟩ := ry
  exact rule i j t t' s _ _ ⟨.bl (g i j), H, I, rfl, q⟩
def CDiv (i j : Int) : Prop := 0 < j /\ j < 1073741824
def CPow (i j : Int) : Prop := 0 ≤ j /\ j ≤ 1000000 /\ i.natAbs < 2 ^ 64
def CMul (i j : Int) : Prop := (-(2 ^ 64) < i /\ i < 2 ^ 64) \/ (-(2 ^ 64) < j /\ j < 2 ^ 64)
theorem CMul.ok {i j : Int} (h : CMul i j) : IntMulOk i j := by
  rcases h with ⟨h1, h2⟩ | ⟨h1, h2⟩
  · exact .of_left (intBits_le_64 h1 h2)
  · exact .of_right (intBits_le_64 h1 h2)
theorem op_add : OpR X (binaryOp .Add) (rI0 fun i j => .int (i + j)) := opI0 fun _ _ _ _ _ _ _ q => add_int q
theorem op_sub : OpR X (binaryOp .Sub) (rI0 fun i j => .int (i - j)) := opI0 fun _ _ _ _ _ _ _ q => sub_int q
theorem op_mul : OpR X (binaryOp .Mult) (rI CMul fun i j => .int (i * j)) := opI fun _ _ _ _ _ _ _ hc q => mul_int q hc.ok
theorem z0b : OpR X (binaryOp .FloorDiv) (rI CDiv fun i j => .int (i / j)) := opI fun i j _ _ _ _ _ hc q => by
  have h1 : (0 : Int) < j := hc.1
  have h2 : j < 1073741824 := hc.2
  exact floordiv_int (by omega) (by rw [Int.fdiv_eq_ediv_of_nonneg i (by omega)]; exact q) (.inl (PyProof.noPylong_small (by omega)))
theorem op_mod : OpR X (binaryOp .Mod) (rI (fun _ j => 0 < j) fun i j => .int (i % j)) := opI fun i j _ _ _ _ _ hc q => by
  have h1 : (0 : Int) < j := hc
  exact mod_int' (by omega) (by rw [Int.fmod_eq_emod_of_nonneg i (by omega)]; exact q)
theorem op_pow : OpR X (binaryOp .Pow) (rI CPow fun i j => .int (i ^ j.toNat)) := opI fun _ _ _ _ _ _ _ hc q => pow_int_small hc.1 hc.2.1 hc.2.2 q
theorem unI {f : Value -> Sem Value} {g : Int -> Int}
    (rule : ∀ (i : Int) (t : Tok) (s : Shared) (Q : Value -> Shared -> Prop) (E : Value -> Shared -> Prop), Q (.int (g i) s.toks) { s with toks := s.toks + 1 } -> wpAny (model X.prog X.w) X.A (f (.int i t)) Q E s) :
    UnR X f (rU fun i => .int (g i)) := by
  intro pins s σ H x v Q I rx h
  obtain ⟨i, rfl, q⟩ := h
  obtain ⟨t, rfl⟩ := rx
  exact rule i t s _ _ ⟨.int (g i), H, I.tok _, ⟨_, rfl⟩, q⟩
theorem zue : UnR X (unaryOp .USub) (rU fun i => .int (-i)) := unI fun _ _ _ _ _ q => neg_int q
end
section
variable {X : Cx} {a b c : Expr} {ta tb tc : TE} {pos : Pos}
theorem zm1 {pins : List (Addr × Obj)} {σ : St} {H : Hp} {s : Shared} {Q : VK} {k k' : Bool} (I : Inv X pins σ H s) (q : Q (.bl k) H) (e : k = k') : EP X pins σ Q (.bool k') s := by
  subst e
  exact ⟨.bl k, H, I, rfl, q⟩
theorem op_lt : OpR X (compareOp .Lt) (rI0 fun i j => .bl (decide (i < j))) := opB0 fun _ _ _ _ _ _ _ q => lt_int q
theorem op_le : OpR X (compareOp .LtE) (rI0 fun i j => .bl (decide (i ≤ j))) := opB0 fun _ _ _ _ _ _ _ q => le_int q
theorem op_gt : OpR X (compareOp .Gt) (rI0 fun i j => .bl (decide (j < i))) := opB0 fun _ _ _ _ _ _ _ q => gt_int q
theorem op_ge : OpR X (compareOp .GtE) (rI0 fun i j => .bl (decide (j ≤ i))) := opB0 fun _ _ _ _ _ _ _ q => ge_int q
theorem zvs : OpR X (compareOp .In) (fun x y H Q => ∃ i j, x = .str i /\ y = .str j /\ Q (.bl (!(Builtin.Str.occurrences j i 0 j.length 1).isEmpty)) H) := by
  intro pins s σ H x y v u Q I rx ry h
  obtain ⟨i, j, rfl, rfl, q⟩ := h
  obtain ⟨t, rfl⟩ := rx
  obtain ⟨t', rfl⟩ := ry
  exact in_str (zm1 I q rfl)
theorem op_isN : OpR X (compareOp .Is) (fun x y H Q => y = .non /\ Q (.bl (decide (x = .non))) H) := by
  intro pins s σ H x y v u Q I rx ry h
  obtain ⟨rfl, q⟩ := h
  cases ry
  refine is_none_gen (zm1 I q ?_)
  cases x <;> first
    | (cases rx; rfl)
    | (obtain ⟨t, rfl⟩ := rx; rfl)
theorem z0a : OpR X (compareOp .IsNot) (fun x y H Q => y = .non /\ Q (.bl (!decide (x = .non))) H) := by
  intro pins s σ H x y v u Q I rx ry h
  obtain ⟨rfl, q⟩ := h
  cases ry
  refine isnot_none_gen (zm1 I q ?_)
  cases x <;> first
    | (cases rx; rfl)
    | (obtain ⟨t, rfl⟩ := rx; rfl)
theorem zql : OpR X (compareOp .NotIn) (fun x y H Q => ∃ i j, x = .str i /\ y = .str j /\ Q (.bl (!(!(Builtin.Str.occurrences j i 0 j.length 1).isEmpty))) H) := by
  intro pins s σ H x y v u Q I rx ry h
  obtain ⟨i, j, rfl, rfl, q⟩ := h
  obtain ⟨t, rfl⟩ := rx
  obtain ⟨t', rfl⟩ := ry
  exact notIn_str (zm1 I q rfl)
theorem OpR.or {f : Value -> Value -> Sem Value} {r r' : R2} (h : OpR X f r) (h' : OpR X f r') : OpR X f (fun x y H Q => r x y H Q \/ r' x y H Q) := by
  intro pins s σ H x y v u Q I rx ry q
  rcases q with q | q
  · exact h pins s σ H x y v u Q I rx ry q
  · exact h' pins s σ H x y v u Q I rx ry q
theorem zz5 {op : CmpOp} {r : R2} (ho : OpR X (compareOp op) r) (ha : PE X a ta) (hb : PE X b tb) (hm : behindInMarks op b = false) : PE X (.Compare a [op] [b] pos) (tOp r ta tb) := by
  intro pins s σ H Q I h
  exact wpAny_Compare1 (binT ha hb I h fun v u s2 x y H2 I2 rx ry q => ho pins s2 σ H2 x y v u Q I2 rx ry q) hm
def tTest (t : TE) : TT := fun σ H Q => t σ H fun x H' => ∃ k, x = .bl k /\ Q k H'
theorem zsf {op : CmpOp} {r : R2} (ho : OpR X (compareOp op) r) (ha : PE X a ta) (hb : PE X b tb) (hm : behindInMarks op b = false) : PT X (.Compare a [op] [b] pos) (tTest (tOp r ta tb)) := by
  intro pins s σ H Q I h
  refine wpAny_isTrue_Compare1 (thn (ha pins s σ H _ I h) fun v s1 ⟨x, H1, I1, r1, q1⟩ => thn (hb pins s1 σ H1 _ I1 q1) fun u s2 ⟨y, H2, I2, r2, q2⟩ =>
    thn (ho pins s2 σ H2 x y v u _ I2 r1 r2 q2) fun c s3 ⟨z, H3, I3, r3, k, e, q3⟩ => ?_) hm
  subst e
  cases r3
  exact wpAny_truthy_bool ⟨H3, I3, q3⟩
def zps (r r' : R2) (ta tb tc : TE) : TE := fun σ H Q => ta σ H fun x H1 => tb σ H1 fun y H2 => r x y H2 fun z H3 => ∃ k, z = .bl k /\
  (if k = true then tc σ H3 fun w' H4 => r' y w' H4 Q else Q (.bl false) H3)
theorem zxi {op op' : CmpOp} {r r' : R2} (ho : OpR X (compareOp op) r) (ho' : OpR X (compareOp op') r') (ha : PE X a ta) (hb : PE X b tb) (hc : PE X c tc)
    (hm : lastMarks [op, op'] [b, c] = false := by with_unfolding_all rfl) : PE X (.Compare a [op, op'] [b, c] pos) (zps r r' ta tb tc) := by
  intro pins s σ H Q I h
  refine Compare_chain (thn (ha pins s σ H _ I h) fun v s1 ⟨x, H1, I1, r1, q1⟩ => chain_link (thn (hb pins s1 σ H1 _ I1 q1) fun u s2 ⟨y, H2, I2, r2, q2⟩ =>
    thn (ho pins s2 σ H2 x y v u _ I2 r1 r2 q2) fun d s3 ⟨z, H3, I3, r3, k, e, q3⟩ => ?_)) hm
  subst e
  cases r3
  refine wpAny_truthy_bool ?_
  cases k with
  | false => exact ite_ff ⟨.bl false, H3, I3, rfl, q3⟩
  | true => exact ite_tt (chain_last (thn (hc pins s3 σ H3 _ I3 q3) fun w' s4 ⟨z', H4, I4, r4, q4⟩ => ho' pins s4 σ H4 y z' u w' Q I4 r2 r4 q4))
theorem zxc {op op' : CmpOp} {r r' : R2} (ho : OpR X (compareOp op) r) (ho' : OpR X (compareOp op') r') (ha : PE X a ta) (hb : PE X b tb) (hc : PE X c tc)
    (hm : lastMarks [op, op'] [b, c] = false := by with_unfolding_all rfl) : PT X (.Compare a [op, op'] [b, c] pos) (tTest (zps r r' ta tb tc)) := by
  intro pins s σ H Q I h
  refine isTrue_chain (thn (ha pins s σ H _ I h) fun v s1 ⟨x, H1, I1, r1, q1⟩ => test_link (thn (hb pins s1 σ H1 _ I1 q1) fun u s2 ⟨y, H2, I2, r2, q2⟩ =>
    thn (ho pins s2 σ H2 x y v u _ I2 r1 r2 q2) fun d s3 ⟨z, H3, I3, r3, k, e, q3⟩ => ?_)) hm
  subst e
  cases r3
  refine wpAny_truthy_bool ?_
  cases k with
  | false =>
    obtain ⟨k', e', q'⟩ := q3
    cases e'
    exact ite_ff ⟨H3, I3, q'⟩
  | true =>
    refine ite_tt (test_last (thn (hc pins s3 σ H3 _ I3 q3) fun w' s4 ⟨z', H4, I4, r4, q4⟩ => thn (ho' pins s4 σ H4 y z' u w' _ I4 r2 r4 q4) fun d' s5 ⟨z2, H5, I5, r5, k2, e2, q5⟩ => ?_))
    subst e2
    cases r5
    exact wpAny_truthy_bool ⟨H5, I5, q5⟩
def TruV (K : PySem.W.Frag) (x : V) (H : Hp) (k : Bool) : Prop :=
  match x with
  | .non => k = false
  | .bl b => k = b
  | .int i => k = (i != 0)
  | .str y => y.length ≤ sizeLine /\ k = ((y.length : Int) != 0)
  | .byt y => y.size ≤ sizeLine /\ k = ((y.size : Int) != 0)
  | .ref p => (∃ xs, SqL K H p xs /\ k = !xs.isEmpty) \/ (∃ xs, SqT K H p xs /\ k = !xs.isEmpty) \/ ∃ kvs, H p = some (.dK kvs) /\ k = !kvs.isEmpty
  | _ => False
theorem ztt {κ : Type} {kvs : List (κ × V)} {vs : List (κ × Value)} (r : KV kvs vs) : (!vs.isEmpty) = !kvs.isEmpty := by
  cases r <;> rfl
theorem zmy {xs : List V} {its : List Value} (r : Vals xs its) : (!its.toArray.isEmpty) = !xs.isEmpty := by
  cases r <;> simp
theorem ziu : (sizeLine : Nat) < 2 ^ 63 := by rw [sizeLine_eq]; decide
theorem tru_ok : TruR X (fun x H Q => ∃ k, TruV X.K x H k /\ Q k H) := by
  intro pins s σ H x v Q I rx h
  obtain ⟨k, e, q⟩ := h
  have hl := ziu
  have hs : sizeLine = 16777216 := sizeLine_eq
  cases x with
  | non =>
    cases rx
    have e' : k = false := e
    subst e'
    exact truthy_none ⟨H, I, q⟩
  | bl b =>
    cases rx
    have e' : k = b := e
    subst e'
    exact wpAny_truthy_bool ⟨H, I, q⟩
  | int i =>
    obtain ⟨t, rfl⟩ := rx
    have e' : k = (i != 0) := e
    subst e'
    exact PySem.P.truthy_int ⟨H, I, q⟩
  | str y =>
    obtain ⟨t, rfl⟩ := rx
    obtain ⟨hy, e'⟩ : y.length ≤ sizeLine /\ k = ((y.length : Int) != 0) := e
    subst e'
    exact PySem.P.truthy_str (by omega) ⟨H, I.tok _, q⟩
  | byt y =>
    obtain ⟨t, rfl⟩ := rx
    obtain ⟨hy, e'⟩ : y.size ≤ sizeLine /\ k = ((y.size : Int) != 0) := e
    subst e'
    exact PySem.W.truthy_bytes (by omega) ⟨H, I.tok _, q⟩
  | ref p =>
    cases rx
    have e' : (∃ xs, SqL X.K H p xs /\ k = !xs.isEmpty) \/ (∃ xs, SqT X.K H p xs /\ k = !xs.isEmpty) \/ ∃ kvs, H p = some (.dK kvs) /\ k = !kvs.isEmpty := e
    rcases e' with ⟨xs, hx, e'⟩ | ⟨xs, hx, e'⟩ | ⟨kvs, hx, e'⟩
    · subst e'
      obtain ⟨its, r, pl, hz⟩ := I.list hx
      have hlen := r.length
      exact wpAny_truthy_list pl.isList (by simp only [List.size_toArray]; omega) ⟨H, I.tok _, by rw [zmy r]; exact q⟩
    · subst e'
      obtain ⟨its, r, pl, hz⟩ := I.tuple hx
      have hlen := r.length
      exact truthy_tuple pl (by simp only [List.size_toArray]; omega) ⟨H, I.tok _, by rw [zmy r]; exact q⟩
    · subst e'
      obtain ⟨hz, hS, vs, r, m⟩ : kvs.length ≤ sizeLine /\ (p == sysModules) = false /\ ∃ vs, KV kvs vs /\ s.heap.DictOf (zjo X.prog X.w) p vs := I.hok p _ hx
      have hlen : kvs.length = vs.length := Paired.length r
      exact wpAny_truthy_dict hS m (by omega) ⟨H, I.tok _, by rw [ztt r]; exact q⟩
  | _ => exact (show False from e).elim
theorem zxb (ha : PE X a ta) (he : ∀ whole, isTrue a X.env whole = (do let v <- whole; standAt a.pos; holding [v] (truthy v))) :
    PT X a (fun σ H Q => ta σ H fun x H' => ∃ k, TruV X.K x H' k /\ Q k H') := by
  intro pins s σ H Q I h
  exact isTrue_plain (thn (ha pins s σ H _ I h) fun v s1 ⟨x, H1, I1, r1, q1⟩ => tru_ok pins s1 σ H1 x v Q I1 r1 q1) (he _)
theorem zti : OpR X (binaryOp .Add) (fun x y H Q => ∃ i j, x = .str i /\ y = .str j /\ i.length + j.length ≤ sizeLine /\ Q (.str (i ++ j)) H) := by
  intro pins s σ H x y v u Q I rx ry h
  obtain ⟨i, j, rfl, rfl, hz, q⟩ := h
  obtain ⟨t, rfl⟩ := rx
  obtain ⟨t', rfl⟩ := ry
  exact add_str (fun t' tk => ⟨.str (i ++ j), H, I.tok _, ⟨_, rfl⟩, q⟩) hz
theorem vals1 {x : V} {us : List Value} (r : Vals [x] us) : ∃ u, us = [u] /\ RelV x u := by
  cases r with
  | cons r1 r2 => cases r2; exact ⟨_, rfl, r1⟩
theorem vals2 {x y : V} {us : List Value} (r : Vals [x, y] us) : ∃ u w', us = [u, w'] /\ RelV x u /\ RelV y w' := by
  cases r with
  | cons r1 r2 =>
    cases r2 with
    | cons r3 r4 => cases r4; exact ⟨_, _, rfl, r1, r3⟩
theorem zwe : zdr X (.type "int") (fun xs H Q => (∃ i, xs = [.int i] /\ Q (.int i) H) \/ ∃ k, xs = [.bl k] /\ Q (.int (if k then 1 else 0)) H) := by
  intro pins s σ H xs us Q I r h
  rcases h with ⟨i, rfl, q⟩ | ⟨k, rfl, q⟩
  · obtain ⟨u, rfl, t, rfl⟩ := vals1 r
    exact call_int_int ⟨.int i, H, I, ⟨_, rfl⟩, q⟩
  · obtain ⟨u, rfl, r1⟩ := vals1 r
    cases r1
    exact call_int_bool ⟨.int (if k then 1 else 0), H, I.tok _, ⟨_, rfl⟩, q⟩
end
end L2
namespace L2
open PySem PySem.Spec PyProof.Rows
structure ObjM (h : Heap) (x dx C : Addr) (mA : Str -> Option Value) : Prop where
  obj : h.get? x = some (PySem.W.instObj C dx)
  ns : h.Ns1 dx mA
  ne : dx ≠ x
theorem zvx {h : Heap} {dx : Addr} {mA : Str -> Option Value} (n : h.Ns1 dx mA) : ∃ od, h.get? dx = some od /\ ∀ name, PySem.W.lookIn name od = some (mA name) := by
  obtain ⟨o, es, ep, ho, hd, hk, _, hm⟩ := n
  refine ⟨o, ho, fun name => ?_⟩
  have e := hm name
  unfold nsFind findBy at e
  rw [<- Array.find?_toList] at e
  unfold PySem.W.lookIn
  rw [hd]
  dsimp only
  split
  · rename_i y q
    rw [q] at e
    exact congrArg some e
  · rename_i q
    rw [q] at e
    have a : es.toList.any (·.refKey) = false := by
      rw [List.any_eq_false]
      intro y hy
      obtain ⟨z, t, hkey⟩ := hk y (Array.mem_toList_iff.mp hy)
      simp [DictEntry.refKey, hkey]
    have a' : ¬ es.toList.any (·.refKey) = true := by rw [a]; exact Bool.false_ne_true
    rw [if_neg a']
    exact congrArg some e
theorem ObjM.look {h : Heap} {x dx C : Addr} {mA : Str -> Option Value} (I : ObjM h x dx C mA) : ∃ od, PySem.W.InstAt h x (PySem.W.instObj C dx) C (some od) /\ ∀ name, PySem.W.lookIn name od = some (mA name) :=
  let ⟨od, ho, hl⟩ := zvx I.ns
  ⟨od, ⟨I.obj, rfl, rfl, ho⟩, hl⟩
section
variable {prog : Program} {w : World} {A : Around} {E : Value -> Shared -> Prop} {s : Shared} {K : PySem.W.Frag} {x dx C f : Addr} {mA : Str -> Option Value} {name : Str} {v : Value}
end
section
variable {P : Program} {w : World} {H H' : Hp} {h h' : Heap} {a C dx : Addr} {fs fs' : List (Str × V)}
theorem z0g (hok : HOk P w H h) (e : H a = some (.ins C dx fs)) : ∃ mA, ObjM h a dx C mA /\ (∀ f, RelO (fs.lookup f) (mA f)) /\ PySem.Within mA (fs.map (·.1)) /\ fs.length ≤ 1000 /\ H dx = some (.own a) := by
  obtain ⟨d, z, ne, ob, mA, n, r, q⟩ := (show zdq P w H h a (.ins C dx fs) from hok a _ e)
  exact ⟨mA, ⟨ob, n, ne⟩, r, q, z, d⟩
end
structure Cls (K : PySem.W.Frag) (C : Addr) : Prop where
  pg : PySem.W.plainGet K C Str.empty = true
  hd : PySem.W.hasDictIn K C = true
  po : PySem.W.plainOver K C = true
  sa : PySem.W.findIn K (.ref C) "__setattr__" = some (some (.builtin "object.__setattr__"))
theorem Cls.get {K : PySem.W.Frag} {C : Addr} (c : Cls K C) (f : Str) : PySem.W.plainGet K C f = true := c.pg
section
variable {X : Cx} {pins : List (Addr × Obj)} {σ : St} {H : Hp} {s : Shared} {a C dx : Addr} {fs : List (Str × V)} {f : Str} {v : V} {A : Around} {E : Value -> Shared -> Prop}
theorem Inv.made (I : Inv X pins σ H s) : Inv X pins σ (upd (upd H s.heap.objs.size (.own (s.heap.objs.size + 1))) (s.heap.objs.size + 1) (.ins C s.heap.objs.size []))
    { s with heap := (s.heap.push PySem.W.emptyDict).push (PySem.W.instObj C s.heap.objs.size) } := by
  have e1 : (s.heap.push PySem.W.emptyDict).get? s.heap.objs.size = some PySem.W.emptyDict := Heap.get?_push_size s.heap rfl
  have e2 : ((s.heap.push PySem.W.emptyDict).push (PySem.W.instObj C s.heap.objs.size)).get? (s.heap.objs.size + 1) = some (PySem.W.instObj C s.heap.objs.size) := by
    have := Heap.get?_push_size (s.heap.push PySem.W.emptyDict) (o := PySem.W.instObj C s.heap.objs.size) rfl
    rwa [Heap.size_push] at this
  have e3 : (s.heap.push PySem.W.emptyDict).Ns s.heap.objs.size (fun _ => none) := ⟨PySem.W.emptyDict, #[], _, e1, rfl, (fun e he => absurd he (by simp)), fun _ => rfl⟩
  have I1 := I.laid (a := s.heap.objs.size) (o := .own (s.heap.objs.size + 1)) (h' := s.heap.push PySem.W.emptyDict) (t' := s.toks) (fun b u q => Heap.get?_push_of_some _ q) (Nat.le_refl _) ⟨_, e1⟩
  refine I1.laid (a := s.heap.objs.size + 1) (o := .ins C s.heap.objs.size []) (t' := s.toks) (fun b u q => Heap.get?_push_of_some _ q) (Nat.le_of_eq (Heap.size_push _ _)) ?_
  have ne : s.heap.objs.size ≠ s.heap.objs.size + 1 := Nat.ne_of_lt (Nat.lt_succ_self _)
  refine ⟨by rw [zbd ne, zc5], Nat.zero_le _, ne, e2, fun _ => none, (Heap.Ns1.of_empty e3).at fun o q => Heap.get?_push_of_some _ q, fun _ => True.intro, fun y hy => absurd rfl hy⟩
end
section
variable {X : Cx} {o e value : Expr} {f : Str} {pos pos' tpos : Pos} {ta tv : TE}
end
section
variable {X : Cx} {pins : List (Addr × Obj)} {σ : St} {H : Hp} {s : Shared} {A : Around} {E : Value -> Shared -> Prop} {Q : Value -> Shared -> Prop} {c : Value} {b : Bool}
inductive zh6 (K : PySem.W.Frag) (H : Hp) : V -> Value -> Prop where
  | non : zh6 K H .non (.type "NoneType")
  | bl (x : Bool) : zh6 K H (.bl x) (.type "bool")
  | int (i : Int) : zh6 K H (.int i) (.type "int")
  | str (x : Str) : zh6 K H (.str x) (.type "str")
  | flt (x : UInt64) : zh6 K H (.flt x) (.type "float")
  | lst {a : Addr} {xs : List V} (e : H a = some (.lst xs)) : zh6 K H (.ref a) (.type "list")
  | frz {a : Addr} {o : Obj} {xs : List V} (e : H a = some (.frz o (.lst xs))) : zh6 K H (.ref a) (.type "list")
  | tup {a : Addr} {xs : List V} (e : H a = some (.tup xs)) : zh6 K H (.ref a) (.type "tuple")
  | dK {a : Addr} {kvs : List (Key × V)} (e : H a = some (.dK kvs)) : zh6 K H (.ref a) (.type "dict")
  | dT {a : Addr} {kvs : List (List Key × V)} (e : H a = some (.dT kvs)) : zh6 K H (.ref a) (.type "dict")
  | ins {a C dx : Addr} {fs : List (Str × V)} (e : H a = some (.ins C dx fs)) (cl : Cls K C) (ha : PySem.W.findIn K (.ref C) "__class__" = some (some (.builtin "object.__class__")))
      (hn : PySem.W.specialIn K (.builtin "object.__class__") "__get__" = some (some (.builtin "getset_descriptor.__get__"))) (htk : PySem.W.takesIn K (.builtin "object.__class__") = some true)
      (hm : PySem.W.mroIn K C (.type "object") = some true) : zh6 K H (.ref a) (.ref C)
theorem zi6 {x : V} {u t : Value} (I : Inv X pins σ H s) (rx : RelV x u) (ty : zh6 X.K H x t) (e : PySem.W.kitOne X.K t c = some b) (h : ∀ tk, Q (.bool b) { s with toks := tk }) :
    wpAny (model X.prog X.w) A (call (.builtin "isinstance") [u, c]) Q E s := by
  cases ty with
  | non => cases (show u = Value.none from rx); exact PySem.W.kia_one PySem.W.kitx_none I.kIn True.intro e (fun z => nomatch z) h
  | bl y => cases (show u = Value.bool y from rx); exact PySem.W.kia_one PySem.W.kitx_bool I.kIn True.intro e (fun z => nomatch z) h
  | int i => obtain ⟨t, q⟩ := (show ∃ t, u = Value.int i t from rx); cases q; exact PySem.W.kia_one PySem.W.kitx_int I.kIn True.intro e (fun z => nomatch z) h
  | str y => obtain ⟨t, q⟩ := (show ∃ t, u = Value.str y t from rx); cases q; exact PySem.W.kia_one PySem.W.kitx_str I.kIn True.intro e (fun z => nomatch z) h
  | flt y => obtain ⟨t, q⟩ := (show ∃ t, u = Value.float y t from rx); cases q; exact PySem.W.kia_one PySem.W.kitx_float I.kIn True.intro e (fun z => nomatch z) h
  | @lst a xs ea =>
    cases (show u = Value.ref a from rx)
    obtain ⟨_, _, n, _, h1⟩ := (show zdq X.prog X.w H s.heap a (.lst xs) from I.hok a _ ea)
    exact PySem.W.kia_one PySem.W.kitx_list I.kIn ⟨_, h1, rfl⟩ e (fun z => nomatch z) h
  | @frz a ob xs ea =>
    cases (show u = Value.ref a from rx)
    obtain ⟨_, _, _, n, _, h1⟩ := (show zdq X.prog X.w H s.heap a (.frz ob (.lst xs)) from I.hok a _ ea)
    exact PySem.W.kia_one PySem.W.kitx_list I.kIn ⟨_, h1, rfl⟩ e (fun z => nomatch z) h
  | @tup a xs ea =>
    cases (show u = Value.ref a from rx)
    obtain ⟨_, _, _, p⟩ := (show zdq X.prog X.w H s.heap a (.tup xs) from I.hok a _ ea)
    obtain ⟨o, h1, h2, _⟩ := p
    exact PySem.W.kia_one PySem.W.kitx_tuple I.kIn ⟨o, h1, h2⟩ e (fun z => nomatch z) h
  | @dK a kvs ea =>
    cases (show u = Value.ref a from rx)
    obtain ⟨_, _, vs, _, p⟩ := (show zdq X.prog X.w H s.heap a (.dK kvs) from I.hok a _ ea)
    obtain ⟨o, es, ep, h1, h2, _⟩ := p
    exact PySem.W.kia_one PySem.W.kitx_dict I.kIn ⟨o, h1, h2.1⟩ e (fun z => nomatch z) h
  | @dT a kvs ea =>
    cases (show u = Value.ref a from rx)
    obtain ⟨_, _, xs, _, o, es, ep, h1, h2, _⟩ := (show zdq X.prog X.w H s.heap a (.dT kvs) from I.hok a _ ea)
    exact PySem.W.kia_one PySem.W.kitx_dict I.kIn ⟨o, h1, h2.1⟩ e (fun z => nomatch z) h
  | @ins a C dx fs ea cl ha hn htk hm =>
    cases (show u = Value.ref a from rx)
    obtain ⟨mA, O, _⟩ := z0g I.hok ea
    obtain ⟨od, J, _⟩ := O.look
    exact PySem.W.kia_one (PySem.W.kitx_own (cl.get _) cl.hd ha hn htk hm) I.kIn J e (fun z => nomatch z) h
end
end L2
namespace L2
open PySem PySem.Spec PyProof.Rows
structure zbe (k : Nat) (A : Around) : Prop where
  hd : A.handled = none
  dp : A.depth + 3 * k + 5 < recursionLimit
  un : A.units + 16 * k + 200 < cLine
theorem zbe.mono {j k : Nat} {A : Around} (r : zbe k A) (h : j ≤ k) : zbe j A := ⟨r.hd, by have := r.dp; omega, by have := r.un; omega⟩
theorem zbe.deeper {k : Nat} {A : Around} (r : zbe (k + 1) A) (env : Env) : zbe k (A.deeper env) :=
  ⟨r.hd, by have := r.dp; show A.depth + 1 + 3 * k + 5 < _; omega, by have := r.un; show A.units + 3 + 16 * k + 200 < _; omega⟩
theorem zbe.in1 {k : Nat} {A : Around} (r : zbe (k + 1) A) : zbe k A.in1 :=
  ⟨r.hd, by have := r.dp; show A.depth + 3 * k + 5 < _; omega, by have := r.un; show A.units + 1 + 16 * k + 200 < _; omega⟩
theorem zbe.depth {k : Nat} {A : Around} (r : zbe k A) : A.depth < recursionLimit := by have := r.dp; omega
theorem zbe.units {k : Nat} {A : Around} (r : zbe k A) : A.units + 64 < cLine := by have := r.un; omega
def tNil : TA := fun _ H Q => Q [] H
def tCons (ta : TE) (tr : TA) : TA := fun σ H Q => ta σ H fun x H1 => tr σ H1 fun xs H2 => Q (x :: xs) H2
section
variable {X : Cx} {e : Expr} {es : List Expr} {te : TE} {t : TA} {pos : Pos}
theorem zhv : PA X [] tNil := fun _ _ _ _ H Q I h => Calls.spliced_nil ⟨[], H, I, .nil, h⟩
theorem ze3 (ha : PE X e te) (hr : PA X es t) (hs : starEach (e :: es) X.env = (false, eval e X.env) :: starEach es X.env := by rfl) : PA X (e :: es) (tCons te t) := by
  intro pos pins s σ H Q I h
  rw [hs]
  show wpAny _ _ (spliced ((false, eval e X.env) :: backTo pos (starEach es X.env))) _ _ s
  refine Calls.spliced_cons (thn (ha pins s σ H _ I h) fun u s1 ⟨x, H1, I1, r1, q1⟩ => ?_)
  exact thn (hr pos pins s1 σ H1 _ I1 q1) fun us s2 ⟨xs, H2, I2, r2, q2⟩ => ⟨x :: xs, H2, I2, .cons r1 r2, q2⟩
def tTup (t : TA) : TE := fun σ H Q => t σ H fun xs H1 => xs.length ≤ sizeLine /\ ∀ p, H1 p = none -> Q (.ref p) (upd H1 p (.tup xs))
def tLst (t : TA) : TE := fun σ H Q => t σ H fun xs H1 => xs.length ≤ sizeLine /\ ∀ p, H1 p = none -> Q (.ref p) (upd H1 p (.lst xs))
theorem pe_tup {x1} (h : PA X es t) : PE X (.Tuple es x1 pos) (tTup t) := by
  intro pins s σ H Q I hq
  refine wpAny_Tuple_spliced (thn (h pos pins s σ H _ I hq) fun us s1 ⟨xs, H1, I1, r, z, q⟩ => ⟨by rw [<- r.length]; exact z, ?_⟩)
  have hf : H1 s1.heap.objs.size = none := I1.hok.fresh (Nat.le_refl _)
  refine ⟨.ref s1.heap.objs.size, upd H1 s1.heap.objs.size (.tup xs), I1.laid (t' := s1.toks) (fun b u e => Heap.get?_push_of_some _ e) (Nat.le_refl _) ?_, rfl, q _ hf⟩
  exact ⟨z, us, r, ⟨_, Heap.get?_push_size _ rfl, rfl, _, rfl⟩⟩
theorem pe_lst (h : PA X es t) : PE X (.List es pos) (tLst t) := by
  intro pins s σ H Q I hq
  refine wpAny_List_spliced (thn (h pos pins s σ H _ I hq) fun us s1 ⟨xs, H1, I1, r, z, q⟩ => ⟨by rw [<- r.length]; exact z, ?_⟩)
  have hf : H1 s1.heap.objs.size = none := I1.hok.fresh (Nat.le_refl _)
  refine ⟨.ref s1.heap.objs.size, upd H1 s1.heap.objs.size (.lst xs), I1.laid (t' := s1.toks) (fun b u e => Heap.get?_push_of_some _ e) (Nat.le_refl _) ?_, rfl, q _ hf⟩
  exact ⟨z, us, 0, r, Heap.get?_push_size _ rfl⟩
end
abbrev Sp := List V -> Hp -> VK -> XK -> Prop
abbrev CXT := List Env -> Hp -> Shared -> XK -> Value -> Shared -> Prop
structure zl5 (P : Program) (w : World) (K : PySem.W.Frag) (mg : Str -> Option Value) (base : Heap) (A : Around) (outer : List Env) (s : Shared) (H : Hp) : Prop where
  frames : A.frames = some outer
  mod : Mod K mg base
  bs : ∀ b o, base.get? b = some o -> s.heap.get? b = some o /\ H b = none
  bsz : base.objs.size ≤ s.heap.objs.size
  funs : s.heap.FunFrames base outer
  frf : ∀ b ∈ frs outer, H b = none
  hok : HOk P w H s.heap
  bare : AllBare s.gens
def CE (outer : List Env) (P : Program) (w : World) (H : Hp) (s : Shared) (Q : VK) (u : Value) (s' : Shared) : Prop :=
  ∃ v H', s'.os = s.os /\ AllBare s'.gens /\ Un (frs outer) [] H H' s.heap s'.heap /\ HOk P w H' s'.heap /\ RelV v u /\ Q v H'
def CR (CX : CXT) (outer : List Env) (P : Program) (w : World) (H : Hp) (s : Shared) (Q : VK) (E : XK) (r : Result) (s' : Shared) : Prop :=
  match r with
  | .ok (.ret u) => CE outer P w H s Q u s'
  | .ok _ => False
  | .error e => CX outer H s E e s'
structure zh7 (P : Program) (w : World) (K : PySem.W.Frag) (mg : Str -> Option Value) (base : Heap) (CX : CXT) (k : Nat) (f : Addr) (fd : FuncData) (ps : List Str) (sp : Sp) : Prop where
  len : ∀ vs H Q E, sp vs H Q E -> vs.length = ps.length
  run : ∀ (A : Around) (outer : List Env) (s : Shared) (H : Hp) (args : Args) (us : List Value) (vs : List V) (Q : VK) (E : XK), zbe k A -> zl5 P w K mg base A outer s H -> BindsTo s fd args (ps.zip us) -> Vals vs us -> sp vs H Q E ->
    codeAny (model P w) A (.call (.ref f) args) (CR CX outer P w H s Q E) s
theorem zh7.mono {P : Program} {w : World} {K : PySem.W.Frag} {mg : Str -> Option Value} {base : Heap} {CX : CXT} {j k : Nat} {f : Addr} {fd : FuncData} {ps : List Str} {sp : Sp} (F : zh7 P w K mg base CX j f fd ps sp) (h : j ≤ k) :
    zh7 P w K mg base CX k f fd ps sp := ⟨F.len, fun A outer s H args us vs Q E hr => F.run A outer s H args us vs Q E (hr.mono h)⟩
theorem zl5.in1 {P : Program} {w : World} {K : PySem.W.Frag} {mg : Str -> Option Value} {base : Heap} {A : Around} {outer : List Env} {s : Shared} {H : Hp} (e : zl5 P w K mg base A outer s H) :
    zl5 P w K mg base A.in1 outer s H := ⟨e.frames, e.mod, e.bs, e.bsz, e.funs, e.frf, e.hok, e.bare⟩
section
variable {X : Cx} {pins : List (Addr × Obj)} {σ : St} {H : Hp} {s s' : Shared}
theorem Inv.env0 (I : Inv X pins σ H s) : zl5 X.prog X.w X.K X.mg X.base X.A X.stack s H :=
  ⟨I.ok.frames, I.ok.mod, I.bs, Nat.le_trans I.ok.bsz I.sz, I.stack, I.stkFree, I.hok, I.bare⟩
theorem Inv.after {Q : VK} {u : Value} (I : Inv X pins σ H s) (h : CE X.stack X.prog X.w H s Q u s') : EP X pins σ Q u s' := by
  obtain ⟨v, H', os, bare, un, hok, r, q⟩ := h
  obtain ⟨hh, g, d, t, os'⟩ := s'
  obtain rfl : os' = s.os := os
  exact ⟨v, H', I.call (h' := hh) (g' := g) (d' := d) (t' := t) (ch := []) un hok bare (fun b z => absurd z (by simp)), r, q⟩
end
def tCall (sp : Sp) (dvs : List V) (E : XK) (t : TA) : TE := fun σ H Q => t σ H fun vs H1 => sp (vs ++ dvs) H1 Q E
def Binds (K : PySem.W.Frag) (fd : FuncData) (ps : List Str) (ds : List Value) : Prop :=
  ∀ (s : Shared) (us : List Value), K.In s.heap -> (us ++ ds).length = ps.length -> BindsTo s fd ⟨us, []⟩ (ps.zip (us ++ ds))
theorem Binds.all {K : PySem.W.Frag} {fd : FuncData} {ps : List Str} (h : ∀ us : List Value, us.length = ps.length -> bindArgs fd ⟨us, []⟩ = pure (ps.zip us)) : Binds K fd ps [] := fun s us _ hl => by
  rw [List.append_nil] at hl ⊢
  exact .of_eq (h us hl)
def Passes (CX : CXT) (X : Cx) (E : XK) : Prop := ∀ (pins : List (Addr × Obj)) (σ : St) (H : Hp) (s : Shared) (e : Value) (s' : Shared), Inv X pins σ H s -> CX X.stack H s E e s' -> X.xe e s'
section
variable {X : Cx} {CX : CXT} {k : Nat} {f C : Addr} {fd : FuncData} {ps : List Str} {sp : Sp} {dvs : List V} {ds : List Value} {E : XK} {x m : Str} {p pos apos : Pos} {e o : Expr} {es : List Expr} {ta : TE} {t : TA}
theorem zu5 {pins : List (Addr × Obj)} {σ : St} {H : Hp} {s : Shared} {Q : VK} {us : List Value} {vs : List V} (F : zh7 X.prog X.w X.K X.mg X.base CX k f fd ps sp) (hr : zbe k X.A) (hb : Binds X.K fd ps ds) (hd : Vals dvs ds) (hx : Passes CX X E)
    (I : Inv X pins σ H s) (r : Vals vs us) (h : sp (vs ++ dvs) H Q E) : wpAny (model X.prog X.w) X.A (call (.ref f) us) (EP X pins σ Q) X.xe s := by
  have r2 : Vals (vs ++ dvs) (us ++ ds) := r.append hd
  have hl : (us ++ ds).length = ps.length := by rw [<- r2.length]; exact F.len _ _ _ _ h
  refine wpAny_call (codeAny_mono (F.run X.A X.stack s H ⟨us, []⟩ (us ++ ds) (vs ++ dvs) Q E hr I.env0 (hb s us I.kIn hl) r2 h) fun r s' hq => ?_)
  cases r with
  | error e => exact hx pins σ H s e s' I hq
  | ok fl =>
    cases fl with
    | ret u => exact I.after hq
    | next => exact False.elim hq
    | brk => exact False.elim hq
    | cont => exact False.elim hq
theorem zz6 (F : zh7 X.prog X.w X.K X.mg X.base CX k f fd ps sp) (hr : zbe k X.A) (hg : Gl X x) (hm : X.mg x = some (.ref f)) (hk : PySem.W.keepIn X.K (.ref f) = true) (hb : Binds X.K fd ps ds) (hd : Vals dvs ds) (hx : Passes CX X E)
    (ha : PA X (e :: es) t) (hdb : (x == ("__debug__" : Str)) = false := by decide) (he : starEach (e :: es) X.env = (false, eval e X.env) :: starEach es X.env := by rfl) (hpl : (backTo pos (starEach es X.env)).any (·.1) = false := by rfl) :
    PE X (.Call (.Name x p) (e :: es) [] pos) (tCall sp dvs E t) := by
  intro pins s σ H Q I h
  refine wpAny_Call_Name_kw (zsl I hg hm ?_ hdb)
  refine PySem.W.callWith_K (h₀ := X.base) I.ok.mod.kin hk (thn (ha pos pins s σ H _ I h) fun us s1 ⟨vs, H1, I1, r, q⟩ => ⟨I1.kIn, ?_⟩) he hpl
  exact zu5 F hr hb hd hx I1 r q
end
section
variable {X : Cx} {CX : CXT} {k : Nat} {f C : Addr} {fd : FuncData} {ps ks : List Str} {sp : Sp} {E : XK} {x m : Str} {p pos apos kpos : Pos} {e o : Expr} {es : List Expr} {kws : List Keyword} {te ta : TE} {t tk : TA} {nm : Option Str}
variable {g : List Value -> List Value -> List Value} {gV : List V -> List V -> List V}
end
structure za3 (N P : List Str) (sc : Scope) : Prop where
  kind : sc.kind = .function
  co : sc.isCoroutine = false
  gen : sc.isGenerator = false
  nd : N.Nodup
  pre : N.take P.length = P
  par : ∀ x ∈ P, sc.names.lookup x = some .local \/ sc.names.lookup x = some .cell
  nofree : ∀ y ∈ sc.names, y.2 ≠ .free
theorem zov {kindOf : Str -> Option NameKind} {x : Str} : ∀ {binds : List (Str × Value)} {m : Str -> Option Value}, (∀ v, (x, v) ∉ binds) -> bindL kindOf binds m x = m x
  | [], _, _ => rfl
  | (n, v) :: r, m, h => by
    unfold bindL
    rw [zov fun w hw => h w (List.mem_cons_of_mem _ hw)]
    split
    · have : x ≠ n := by rintro rfl; exact h v List.mem_cons_self
      simp [this]
    · rfl
theorem zox {kindOf : Str -> Option NameKind} {x : Str} : ∀ {binds : List (Str × Value)} {m : Str -> Option Value}, (∀ v, (x, v) ∉ binds) -> bindC kindOf binds m x = m x
  | [], _, _ => rfl
  | (n, v) :: r, m, h => by
    unfold bindC
    rw [zox fun w hw => h w (List.mem_cons_of_mem _ hw)]
    split
    · rfl
    · have : x ≠ n := by rintro rfl; exact h v List.mem_cons_self
      simp [this]
theorem zow {kindOf : Str -> Option NameKind} {x : Str} {v : Value} : ∀ {P : List Str} {vs : List Value} {i : Nat} {m : Str -> Option Value}, P.Nodup -> P[i]? = some x -> vs[i]? = some v -> kindOf x = some .local ->
    bindL kindOf (P.zip vs) m x = some v
  | [], _, _, _, _, h, _, _ => by simp at h
  | _ :: _, [], _, _, _, _, h, _ => by simp at h
  | p :: P, w :: vs, 0, m, nd, h1, h2, hk => by
    simp at h1 h2; subst h1; subst h2
    show bindL kindOf ((p, w) :: P.zip vs) m p = _
    unfold bindL
    rw [zov fun v hv => (List.nodup_cons.mp nd).1 (List.of_mem_zip hv).1, if_pos hk]
    simp
  | p :: P, w :: vs, i + 1, m, nd, h1, h2, hk => by
    show bindL kindOf ((p, w) :: P.zip vs) m x = _
    unfold bindL
    exact zow (i := i) (List.nodup_cons.mp nd).2 (by simpa using h1) (by simpa using h2) hk
theorem zoy {kindOf : Str -> Option NameKind} {x : Str} {v : Value} : ∀ {P : List Str} {vs : List Value} {i : Nat} {m : Str -> Option Value}, P.Nodup -> P[i]? = some x -> vs[i]? = some v -> kindOf x ≠ some .local ->
    bindC kindOf (P.zip vs) m x = some v
  | [], _, _, _, _, h, _, _ => by simp at h
  | _ :: _, [], _, _, _, _, h, _ => by simp at h
  | p :: P, w :: vs, 0, m, nd, h1, h2, hk => by
    simp at h1 h2; subst h1; subst h2
    show bindC kindOf ((p, w) :: P.zip vs) m p = _
    unfold bindC
    rw [zox fun v hv => (List.nodup_cons.mp nd).1 (List.of_mem_zip hv).1, if_neg hk]
    simp
  | p :: P, w :: vs, i + 1, m, nd, h1, h2, hk => by
    show bindC kindOf ((p, w) :: P.zip vs) m x = _
    unfold bindC
    exact zoy (i := i) (List.nodup_cons.mp nd).2 (by simpa using h1) (by simpa using h2) hk
def start (N : List Str) (vs : List V) : St := vs.map some ++ List.replicate (N.length - vs.length) none
def zbu (CX : CXT) (P : Program) (w : World) (K : PySem.W.Frag) (mg : Str -> Option Value) (base : Heap) (N : List Str) (qual : Str) (scope : Scope) (f : Addr) (cd : Value) (A : Around) (outer : List Env) (s : Shared) (H : Hp) (E : XK) : Cx where
  prog := P
  w := w
  K := K
  mg := mg
  base := base
  A := A.deeper (envOfC qual scope s.heap.objs.size f cd)
  N := N
  s₀ := s
  H₀ := H
  env := envOfC qual scope s.heap.objs.size f cd
  outer := outer
  stack := envOfC qual scope s.heap.objs.size f cd :: outer
  ex := []
  calm := true
  fn := fun _ => true
  pn := []
  xe := fun e s' => wpAny (model P w) (A.deeper (envOfC qual scope s.heap.objs.size f cd)) (leaving (envOfC qual scope s.heap.objs.size f cd) e) (fun _ s'' => CX outer H s E e s'') (fun e' s'' => CX outer H s E e' s'') s'
theorem zrb {sc : Scope} {n : Nat} {x : Str} (h : sc.names.lookup x = some .cell) : ∃ c, (cellsFrom n sc.names []).lookup x = some c := by
  have q := PySem.W.cellsFrom_some sc.names n [] (.inl h)
  exact Option.isSome_iff_exists.mp q
theorem zv1 {CX : CXT} {P : Program} {w : World} {K : PySem.W.Frag} {mg : Str -> Option Value} {base : Heap} {N ps : List Str} {qual : Str} {scope : Scope} {f : Addr} {cd : Value} {A : Around} {outer : List Env} {s s1 : Shared} {H : Hp} {E : XK} {us : List Value} {vs : List V}
    (S : za3 N ps scope) (hd : A.handled = none) (e0 : zl5 P w K mg base A outer s H) (hl : vs.length = ps.length) (r : Vals vs us)
    (x : InCallC s s.heap.objs.size (bindL (envOfC qual scope s.heap.objs.size f cd).kindOf (ps.zip us) fun _ => none) (cellsFrom (s.heap.objs.size + 1) scope.names []) (bindC (envOfC qual scope s.heap.objs.size f cd).kindOf (ps.zip us) fun _ => none) s1) :
    Inv (zbu CX P w K mg base N qual scope f cd A outer s H E) [] (start N vs) H s1 := by
  have hpl : ps.length ≤ N.length := by have := congrArg List.length S.pre; rw [List.length_take] at this; omega
  obtain ⟨h1, tk, rfl, hk⟩ := x.done
  have noA : ∀ b : Addr, b ∉ (zbu CX P w K mg base N qual scope f cd A outer s H E).ex := fun b z => absurd (show b ∈ ([] : List Addr) from z) (by simp)
  refine ⟨⟨e0.mod, S.kind, rfl, rfl, Nat.le_refl _, fun y z c h1 h2 => ?_, fun y hy => ?_, fun y c _ h => ?_, fun _ => hd, Around.frames_deeper e0.frames, .inr ⟨rfl, rfl⟩, fun b z => absurd z (noA b), e0.bs, e0.bsz, fun b _ _ => noA b, fun b z => absurd z (noA b), e0.funs, e0.frf⟩,
    rfl, e0.bare, Un.kept hk, ⟨_, x.toInCall.ns, fun i y v h1 h2 h3 => ?_⟩, fun y c h => ⟨_, x.cell y c h⟩, e0.hok.fresh (Nat.le_refl _), fun y c h => ?_, fun p hp => absurd (show p ∈ ([] : List (Addr × Obj)) from hp) (by simp), e0.hok.kept hk, ?_⟩
  · exact name_of_addr x.apart (PySem.mem_of_lookup h1) (PySem.mem_of_lookup h2)
  · have hy : scope.names.lookup y = some .cell \/ scope.names.lookup y = some .free := hy
    rcases hy with hy | hy
    · exact zrb hy
    · exact absurd rfl (S.nofree _ (PySem.mem_of_lookup hy))
  · exact Nat.le_of_lt (x.above y c (PySem.mem_of_lookup h))
  · have hi : i < vs.length := by
      unfold start at h2
      by_cases hi : i < vs.length
      · exact hi
      · rw [List.getElem?_append_right (by simpa using hi)] at h2
        rw [List.getElem?_replicate] at h2
        split at h2 <;> cases h2
    have ha : vs[i]? = some v := by
      unfold start at h2
      rw [List.getElem?_append_left (by simpa using hi), List.getElem?_map] at h2
      cases e : vs[i]? with
      | none => rw [e] at h2; cases h2
      | some a => rw [e] at h2; cases h2; rfl
    obtain ⟨u, hu, rv⟩ := r.get ha
    have hp : ps[i]? = some y := by
      rw [<- S.pre, List.getElem?_take_of_lt (by omega)]; exact h1
    have ndP : ps.Nodup := by rw [<- S.pre]; exact S.nd.sublist (List.take_sublist _ _)
    refine ⟨u, rv, ?_⟩
    rcases S.par y (List.mem_of_getElem? hp) with k | k
    · exact .inl ⟨k, zow ndP hp hu k⟩
    · obtain ⟨c, e⟩ := zrb (n := s.heap.objs.size + 1) k
      refine .inr ⟨.inl k, c, e, ?_⟩
      have q := x.cell y c e
      rw [zoy ndP hp hu (by show scope.names.lookup y ≠ _; rw [k]; decide)] at q
      exact q
  · exact e0.hok.fresh (Nat.le_of_lt (x.above y c (PySem.mem_of_lookup h)))
  · unfold start
    show _ = N.length
    rw [List.length_append, List.length_map, List.length_replicate]
    omega
theorem fn_of {CX : CXT} {P : Program} {w : World} {K : PySem.W.Frag} {mg : Str -> Option Value} {base : Heap} {k : Nat} {f : Addr} {name qual : Str} {params : Arguments} {body : List Stmt} {scope : Scope} {dV kV doc pm cdv ct oc : Value} {an od : Option Addr}
    {osl : Array (Option Value)} {N ps : List Str} {sp : Sp} (lk : K.lookup f = some ⟨oc, od, .func (PySem.W.fnOf name qual params body scope dV kV doc pm an cdv ct), osl⟩) (hcd : PySem.W.codeIn K cdv qual = true) (S : za3 N ps scope)
    (len : ∀ vs H Q E, sp vs H Q E -> vs.length = ps.length)
    (hbody : ∀ (A : Around) (outer : List Env) (s : Shared) (H : Hp) (vs : List V) (Q : VK) (E : XK), zbe k (A.deeper (envOfC qual scope s.heap.objs.size f cdv)) -> sp vs H Q E ->
      ∃ t, PSs (zbu CX P w K mg base N qual scope f cdv A outer s H E) body t /\ t { nx := fun _ H' => Q .non H', rt := Q } (start N vs) H) :
    zh7 P w K mg base CX (k + 1) f (PySem.W.fnOf name qual params body scope dV kV doc pm an cdv ct) ps sp := by
  refine ⟨len, fun A outer s H args us vs Q E hr e0 hb r hsp => ?_⟩
  have hl := len _ _ _ _ hsp
  have KX : K.In s.heap := e0.mod.kin.keeps fun b o e => (e0.bs b o e).1
  have lim : s.heap.NoLimit := e0.mod.nolimit.keeps fun b o e => (e0.bs b o e).1
  have hkind : ∀ y ∈ ps.zip us, scope.names.lookup y.1 = some .local \/ (scope.names.lookup y.1 = some .cell /\ ((cellsFrom (s.heap.objs.size + 1) scope.names []).lookup y.1).isSome = true) := fun ⟨n, v⟩ hy => by
    rcases S.par n (List.of_mem_zip hy).1 with q | q
    · exact .inl q
    · exact .inr ⟨q, PySem.W.cellsFrom_some _ _ _ (.inl q)⟩
  refine codeAny_call_function hr.depth (KX _ _ lk) rfl S.co S.gen rfl (PySem.W.codeRec_of KX hcd) (hb _ _ _ _ ?_)
  refine wpAny_newFunctionEnv_cells S.kind hkind fun env he s1 x => ?_
  subst he
  refine ⟨lim.keeps x.toInCall.keep, codeAny_func ?_⟩
  obtain ⟨t, ht, hq⟩ := hbody A outer s H vs Q E (hr.deeper _) hsp
  have I : Inv (zbu CX P w K mg base N qual scope f cdv A outer s H E) [] (start N vs) H s1 := zv1 S hr.hd e0 hl r x
  refine wpAny_mono (ht [] s1 (start N vs) H _ I hq) (fun fl s' hs => ?_) fun e s' hs => hs
  have fin : ∀ {σ' : St} {H' : Hp} {v : V} {u : Value}, Inv (zbu CX P w K mg base N qual scope f cdv A outer s H E) [] σ' H' s' -> RelV v u -> Q v H' -> CE outer P w H s Q u s' :=
    fun {σ' H' v u} J rv q => ⟨v, H', J.os, J.bare, J.base, J.hok, rv, q⟩
  cases fl with
  | ret u =>
    obtain ⟨v, σ', H', J, rv, q⟩ := hs
    exact fin J rv q
  | next =>
    obtain ⟨σ', H', J, q⟩ := hs
    exact fin (v := V.non) (u := Value.none) J rfl q
  | brk =>
    obtain ⟨_, _, _, q⟩ := hs
    exact False.elim q
  | cont =>
    obtain ⟨_, _, _, q⟩ := hs
    exact False.elim q
end L2
namespace L2
open PySem PySem.Spec PyProof.Rows
section
variable {X : Cx} {x : Str} {p pos : Pos} {e : Expr} {es : List Expr} {t : TA} {id T : String} {r : List V -> Hp -> VK -> Prop}
def tCB (r : List V -> Hp -> VK -> Prop) (t : TA) : TE := fun σ H Q => t σ H fun vs H1 => r vs H1 Q
theorem zqf (hc : zdr X (.builtin id) r) (hg : Gl X x) (hm : X.mg x = none) (hv : bootBuiltins x = some (.builtin id)) (ha : PA X (e :: es) t) (hn : x ≠ "__name__" := by decide) (hdb : (x == ("__debug__" : Str)) = false := by decide)
    (he : starEach (e :: es) X.env = (false, eval e X.env) :: starEach es X.env := by rfl) (hpl : (backTo pos (starEach es X.env)).any (·.1) = false := by rfl) : PE X (.Call (.Name x p) (e :: es) [] pos) (tCB r t) := by
  intro pins s σ H Q I h
  refine wpAny_Call_Name_kw (zhy I hg hm hv ?_ hn hdb)
  exact PyProof.Rows.callWith_builtin1 (thn (ha pos pins s σ H _ I h) fun us s1 ⟨vs, H1, I1, r1, q1⟩ => hc pins s1 σ H1 vs us Q I1 r1 q1) he hpl
theorem zon (hc : zdr X (.type T) r) (hg : Gl X x) (hm : X.mg x = none) (hv : bootBuiltins x = some (.type T)) (ha : PA X (e :: es) t) (hn : x ≠ "__name__" := by decide) (hdb : (x == ("__debug__" : Str)) = false := by decide)
    (he : starEach (e :: es) X.env = (false, eval e X.env) :: starEach es X.env := by rfl) (hpl : (backTo pos (starEach es X.env)).any (·.1) = false := by rfl) : PE X (.Call (.Name x p) (e :: es) [] pos) (tCB r t) := by
  intro pins s σ H Q I h
  refine wpAny_Call_Name_kw (zhy I hg hm hv ?_ hn hdb)
  exact PyProof.Rows.callWith_type1 (thn (ha pos pins s σ H _ I h) fun us s1 ⟨vs, H1, I1, r1, q1⟩ => hc pins s1 σ H1 vs us Q I1 r1 q1) he hpl
end
end L2
namespace HT
open PySem PyProof.Rows
section
open PySem.SeqAt
open PySem.AutoSeq1 (wpAny_loadPart')
open PySem.MeetsSeq PySem.MeetsSeq2 PySem.MeetsSeq3
end
section
variable {prog : Program} {w : World} {A : Around} {E : Value -> Shared -> Prop} {s : Shared}
theorem z0u {t b : Addr} {vs ws : List Value} {Q : Value -> Shared -> Prop} (ht : IsTup s.heap t vs.toArray) (hb : IsTup s.heap b ws.toArray) (hv : vs ≠ [])
    (h1 : ws = [] -> Q (.ref t) s) (h2 : ws ≠ [] -> Q (.ref s.heap.objs.size) { s with heap := s.heap.push { cls := .type "tuple", data := .seq (vs ++ ws).toArray } })
    (hsz : vs.length + ws.length ≤ sizeLine) : wpAny (model prog w) A (binaryOp .Add (.ref t) (.ref b)) Q E s := by
  obtain ⟨⟨cls, dd, data, sl⟩, ho, hc, n, hd⟩ := id ht
  obtain ⟨⟨cls2, dd2, data2, sl2⟩, ho2, hc2, n2, hd2⟩ := id hb
  simp only at hc hd hc2 hd2
  subst hc hd hc2 hd2
  have e : vs.toArray ++ ws.toArray = (vs ++ ws).toArray := by simp
  by_cases hw : ws = []
  · exact concat_meets ⟨_, ho, rfl⟩ ⟨_, ho2, rfl⟩ noFill_tuple_add seq_tuple_add PySem.F.slot_tuple_add PySem.F.entry_tuple_add (PySem.F.args_tuple_add_2 _ _)
      (tuple_addW1 t b vs.toArray ws.toArray n n2 dd dd2 sl sl2 (by simpa using hv) (by simp [hw])) ⟨ho, ho2, h1 hw⟩
  · refine concat_meets ⟨_, ho, rfl⟩ ⟨_, ho2, rfl⟩ noFill_tuple_add seq_tuple_add PySem.F.slot_tuple_add PySem.F.entry_tuple_add (PySem.F.args_tuple_add_2 _ _)
      (tuple_addW2 t b vs.toArray ws.toArray n n2 dd dd2 sl sl2 (by simpa using hv) (by simpa using hw) (by rw [List.size_toArray, List.size_toArray]; exact hsz)) ⟨ho, ho2, ?_⟩
    rw [e]
    exact h2 hw
def sIx (n d : Nat) : Option Int -> Nat
  | none => d
  | some v => if v < 0 then (v + (n : Int)).toNat else min v.toNat n
theorem sIx_le (n d : Nat) (hd : d ≤ n) (o : Option Int) : sIx n d o ≤ n := by
  cases o with
  | none => exact hd
  | some v =>
    show (if v < 0 then (v + (n : Int)).toNat else min v.toNat n) ≤ n
    by_cases hv : v < 0
    · rw [if_pos hv]; omega
    · rw [if_neg hv]; exact Nat.min_le_right _ _
theorem zss (v : Int) (n d : Nat) : (if v < 0 then max (v + (n : Int)) 0 else min v (n : Int)) = ((sIx n d (some v) : Nat) : Int) := by
  show (if v < 0 then max (v + (n : Int)) 0 else min v (n : Int)) = (((if v < 0 then (v + (n : Int)).toNat else min v.toNat n) : Nat) : Int)
  by_cases hv : v < 0
  · simp only [if_pos hv]; omega
  · simp only [if_neg hv]; omega
theorem zt6 (lo hi : Option Int) (n : Nat) : Builtin.Slice.sliceAdjust lo hi 1 (n : Int) = (((sIx n 0 lo : Nat) : Int), ((sIx n n hi : Nat) : Int)) := by
  have h1 : ¬ ((1 : Int) < 0) := by omega
  unfold Builtin.Slice.sliceAdjust
  simp only [h1, if_false]
  refine Prod.ext ?_ ?_
  · cases lo with
    | none => rfl
    | some v => exact zss v n 0
  · cases hi with
    | none => rfl
    | some v => exact zss v n n
theorem ztb (i j : Nat) : Builtin.Slice.slicePlaces (i : Int) (j : Int) 1 = j - i := by
  unfold Builtin.Slice.slicePlaces
  have h1 : (1 : Int) > 0 := by omega
  simp only [h1, if_true, Int.ediv_one]
  split <;> omega
theorem zme {v : Value} {o : Option Int} {Q : Option Int -> Shared -> Prop} (p : IsPart v o) (h : Q o s) : wpAny (model prog w) A (Builtin.Slice.slicePartIndex v) Q E s := by
  cases p with
  | none => exact slicePart_none h
  | int i t => exact slicePart_int h
theorem zil {sl : Addr} {vl vu : Value} {lo hi : Option Int} {n : Nat} {Q : Int × Int × Nat -> Shared -> Prop} (hs : s.heap.IsSliceOf sl vl vu .none) (pl : IsPart vl lo) (pu : IsPart vu hi)
    (h : Q (((sIx n 0 lo : Nat) : Int), 1, sIx n n hi - sIx n 0 lo) s) : wpAny (model prog w) A (Builtin.Slice.sliceApplied (.ref sl) (pure (n : Int))) Q E s := by
  obtain ⟨os, hos, hcs, hds⟩ := id hs
  unfold Builtin.Slice.sliceApplied Builtin.Slice.sliceFields
  refine wpAny_bind (wpAny_bind (wpAny_field hos hds (x := vl) rfl (wpAny_bind (wpAny_field hos hds (x := vu) rfl (wpAny_bind (wpAny_field hos hds (x := .none) rfl (wpAny_pure ?_)))))))
  refine wpAny_bind (slicePart_none ?_)
  show wpAny _ _ (if ((1 : Int) == 0) = true then _ else _) _ _ s
  rw [if_neg (by decide)]
  refine wpAny_bind (zme pl (wpAny_bind (zme pu (wpAny_bind (wpAny_pure ?_)))))
  show wpAny _ _ (match Builtin.Slice.sliceAdjust lo hi 1 (n : Int) with | (lo, hi) => pure (lo, (1 : Int), Builtin.Slice.slicePlaces lo hi 1)) _ _ s
  rw [zt6 lo hi n]
  show wpAny _ _ (pure (((sIx n 0 lo : Nat) : Int), (1 : Int), Builtin.Slice.slicePlaces ((sIx n 0 lo : Nat) : Int) ((sIx n n hi : Nat) : Int) 1)) _ _ s
  rw [ztb]
  exact wpAny_pure h
theorem zxe (xs : Array Value) (i k : Nat) : ((List.range k).filterMap fun (m : Nat) => xs[((i : Int) + (m : Int) * 1).toNat]?).toArray = ((xs.toList.drop i).take k).toArray := by
  have e : (fun (m : Nat) => xs[((i : Int) + (m : Int) * 1).toNat]?) = fun m => xs[i + m]? := by
    funext m
    have : ((i : Int) + (m : Int) * 1).toNat = i + m := by omega
    rw [this]
  rw [e]
  have := pick_run xs i k
  rw [List.filterMap_map] at this
  have e2 : ((fun x => xs[x]?) ∘ fun x => i + x) = fun m => xs[i + m]? := rfl
  rw [e2] at this
  rw [this]
theorem zlj {t sl : Addr} {items : Array Value} {vl vu : Value} {lo hi : Option Int} {Q : Value -> Shared -> Prop} (ht : IsTup s.heap t items) (hs : s.heap.IsSliceOf sl vl vu .none) (pl : IsPart vl lo) (pu : IsPart vu hi)
    (hw : ¬ (sIx items.size 0 lo = 0 /\ sIx items.size items.size hi = items.size))
    (h : Q (.ref s.heap.objs.size) { s with heap := s.heap.push { cls := .type "tuple", data := .seq ((items.toList.drop (sIx items.size 0 lo)).take (sIx items.size items.size hi - sIx items.size 0 lo)).toArray } })
    (hsz : items.size ≤ sizeLine) : wpAny (model prog w) A (getItem (.ref t) (.ref sl)) Q E s := by
  have htake : sizeOk (.seq ((items.toList.drop (sIx items.size 0 lo)).take (sIx items.size items.size hi - sIx items.size 0 lo)).toArray) := by
    show ((items.toList.drop (sIx items.size 0 lo)).take (sIx items.size items.size hi - sIx items.size 0 lo)).toArray.size ≤ sizeLine
    rw [List.size_toArray, List.length_take, List.length_drop, Array.length_toList]
    omega
  have hj : sIx items.size items.size hi ≤ items.size := sIx_le _ _ (Nat.le_refl _) hi
  obtain ⟨os, hos, hcs, hds⟩ := id hs
  have hTs : s.TypeIs (.ref sl) "slice" := ⟨os, hos, hcs⟩
  unfold getItem
  try with_reducible refine wpAny_holding ?_
  first | refine wpAny_bind (wpAny_pure ?_) | skip
  refine wpAny_bind (wpAny_sequenceKey ht.typeIs (by decide) ?_)
  refine wpAny_bind (wpAny_callSpecial?_slot (name := Str.ofString "__getitem__") ht.typeIs PyProof.Rows.slot_tuple_getitem
    (wpAny_call_entry PyProof.Rows.slot_tuple_getitem ht.typeIs entry_tuple_getitem ?_ (args_tuple_getitem _ _)))
  show wpAny _ _ (Builtin.Tuple.tupleItemsOf (.ref t) >>= _) _ _ s
  refine wpAny_bind (tupleItemsOf_ ht ?_)
  refine wpAny_bind (wpAny_typeOf hTs ?_)
  rw [if_pos (by decide)]
  refine wpAny_bind (zil hs pl pu ?_)
  have hno : ¬ ((((sIx items.size 0 lo : Nat) : Int) == 0 && (1 : Int) == 1 && (sIx items.size items.size hi - sIx items.size 0 lo) == items.size) = true) := by
    intro q
    rw [Bool.and_eq_true, Bool.and_eq_true] at q
    have q1 : ((sIx items.size 0 lo : Nat) : Int) = 0 := eq_of_beq q.1.1
    have q2 : sIx items.size items.size hi - sIx items.size 0 lo = items.size := eq_of_beq q.2
    exact hw ⟨by omega, by omega⟩
  show wpAny _ _ (if (((sIx items.size 0 lo : Nat) : Int) == 0 && (1 : Int) == 1 && (sIx items.size items.size hi - sIx items.size 0 lo) == items.size) = true then _ else _) _ _ s
  rw [if_neg hno, zxe]
  first
    | exact wpAny_bind (m := Builtin.Tuple.tupleExact _) (wpAny_newObj_type (wpAny_pure ⟨_, rfl, wpAny_pure h⟩) htake)
    | exact wpAny_bind (m := Builtin.Tuple.tupleExact _) (wpAny_newObj_type (wpAny_bind (wpAny_pure (wpAny_pure ⟨_, rfl, wpAny_pure h⟩))) htake)
    | exact wpAny_bind (wpAny_bind (m := Builtin.Tuple.tupleExact _) (wpAny_newObj_type (wpAny_pure (wpAny_pure ⟨_, rfl, wpAny_pure h⟩)) htake))
    | exact wpAny_bind (wpAny_bind (m := Builtin.Tuple.tupleExact _) (wpAny_newObj_type (wpAny_pure ⟨_, rfl, wpAny_pure h⟩) htake))
end
end HT
namespace L2
open PySem PySem.Spec PyProof.Rows
abbrev TO := St -> Hp -> (Option Int -> Hp -> Prop) -> Prop
def PO (X : Cx) (e : Option Expr) (t : TO) : Prop :=
  ∀ (pins : List (Addr × Obj)) (s : Shared) (σ : St) (H : Hp) (Q : Option Int -> Hp -> Prop), Inv X pins σ H s -> t σ H Q ->
    wpAny (model X.prog X.w) X.A (evalPart e X.env) (fun u s' => ∃ o H', Inv X pins σ H' s' /\ IsPart u o /\ Q o H') X.xe s
def zy8 : TO := fun _ H Q => Q none H
def tPart (t : TE) : TO := fun σ H Q => t σ H fun x H1 => ∃ i, x = .int i /\ Q (some i) H1
section
variable {X : Cx} {e : Expr} {te : TE} {lo hi : Option Expr} {tl th : TO} {pos p2 : Pos}
theorem zz2 : PO X none zy8 := by
  intro pins s σ H Q I h
  rw [evalPart_none]
  exact wpAny_pure ⟨none, H, I, .none, h⟩
theorem zz1 (h : PE X e te) : PO X (some e) (tPart te) := by
  intro pins s σ H Q I hw
  rw [evalPart_some]
  refine thn (h pins s σ H _ I hw) fun u s1 ⟨x, H1, I1, r1, q1⟩ => ?_
  obtain ⟨i, rfl, q⟩ := q1
  obtain ⟨t, rfl⟩ := r1
  exact ⟨some i, H1, I1, .int i t, q⟩
def SlR (X : Cx) (r : V -> Option Int -> Option Int -> Hp -> VK -> Prop) : Prop :=
  ∀ (pins : List (Addr × Obj)) (s : Shared) (σ : St) (H : Hp) (x : V) (v vl vu : Value) (lo hi : Option Int) (sl : Addr) (Q : VK), Inv X pins σ H s -> RelV x v -> s.heap.IsSliceOf sl vl vu .none -> IsPart vl lo -> IsPart vu hi -> r x lo hi H Q ->
    ∃ T id, typeLookup (.type T) "__getitem__" = pure (some (.builtin id)) /\ s.TypeIs v T /\ wpAny (model X.prog X.w) X.A (getItem v (.ref sl)) (EP X pins σ Q) X.xe s
theorem SlR.or {r r' : V -> Option Int -> Option Int -> Hp -> VK -> Prop} (h : SlR X r) (h' : SlR X r') : SlR X (fun x lo hi H Q => r x lo hi H Q \/ r' x lo hi H Q) := by
  intro pins s σ H x v vl vu lo hi sl Q I rx hs pl pu q
  rcases q with q | q
  · exact h pins s σ H x v vl vu lo hi sl Q I rx hs pl pu q
  · exact h' pins s σ H x v vl vu lo hi sl Q I rx hs pl pu q
def tSl (r : V -> Option Int -> Option Int -> Hp -> VK -> Prop) (te : TE) (tl th : TO) : TE := fun σ H Q => te σ H fun x H1 => tl σ H1 fun l H2 => th σ H2 fun u H3 => r x l u H3 Q
theorem zxg {r : V -> Option Int -> Option Int -> Hp -> VK -> Prop} (hr : SlR X r) (he : PE X e te) (hl : PO X lo tl) (hu : PO X hi th) : PE X (.Subscript e (.Slice lo hi none p2) pos) (tSl r te tl th) := by
  intro pins s σ H Q I h
  refine Subscript_ (thn (he pins s σ H _ I h) fun v s1 ⟨x, H1, I1, r1, q1⟩ => ?_)
  refine wpAny_Slice (thn (hl pins s1 σ H1 _ I1 q1) fun vl s2 ⟨l, H2, I2, pl, q2⟩ => thn (hu pins s2 σ H2 _ I2 q2) fun vu s3 ⟨u, H3, I3, pu, q3⟩ => ?_)
  rw [evalPart_none]
  refine wpAny_pure ?_
  have I4 : Inv X pins σ H3 { s3 with heap := s3.heap.push { cls := .type "slice", data := .fields #[vl, vu, .none] } } := I3.kept (t' := s3.toks) fun b ob q => Heap.get?_push_of_some _ q
  obtain ⟨T, id, hT, ht, hg⟩ := hr pins { s3 with heap := s3.heap.push { cls := .type "slice", data := .fields #[vl, vu, .none] } } σ H3 x v vl vu l u s3.heap.objs.size Q I4 r1 (Heap.IsSliceOf.new ..) pl pu q3
  show wpAny (model X.prog X.w) X.A (subscriptTail e (.Slice lo hi none p2) v (.ref s3.heap.objs.size)) (EP X pins σ Q) X.xe { s3 with heap := s3.heap.push { cls := .type "slice", data := .fields #[vl, vu, .none] } }
  exact tail_any (ops := [.ref s3.heap.objs.size, v]) ht hT hg (by with_unfolding_all rfl)
def zkx (xs : List V) (lo hi : Option Int) : List V := (xs.drop (HT.sIx xs.length 0 lo)).take (HT.sIx xs.length xs.length hi - HT.sIx xs.length 0 lo)
theorem zll (xs : List V) (lo hi : Option Int) : (zkx xs lo hi).length ≤ xs.length := by
  unfold zkx
  rw [List.length_take, List.length_drop]
  omega
def rSlT (K : PySem.W.Frag) : V -> Option Int -> Option Int -> Hp -> VK -> Prop := fun x lo hi H Q => ∃ a xs, x = .ref a /\ SqT K H a xs /\
  ¬ (HT.sIx xs.length 0 lo = 0 /\ HT.sIx xs.length xs.length hi = xs.length) /\ ∀ p, H p = none -> Q (.ref p) (upd H p (.tup (zkx xs lo hi)))
theorem sl_tup : SlR X (rSlT X.K) := by
  intro pins s σ H x v vl vu lo hi sl Q I rx hs pl pu h
  obtain ⟨a, xs, rfl, hx, hw, q⟩ := h
  cases rx
  obtain ⟨its, r, ht, hz⟩ := I.tuple hx
  have hlen : its.toArray.size = xs.length := by rw [List.size_toArray]; exact r.length.symm
  refine ⟨"tuple", _, PyProof.Rows.slot_tuple_getitem.lookup, ht.typeIs, ?_⟩
  refine HT.zlj ht hs pl pu (by rw [hlen]; exact hw) ?_ (by rw [hlen]; exact hz)
  rw [hlen]
  refine ⟨.ref s.heap.objs.size, _, I.laid (t' := s.toks) (o := .tup (zkx xs lo hi)) (fun b ob q => Heap.get?_push_of_some _ q) (Nat.le_refl _) ?_, rfl, q _ (I.hok.fresh (Nat.le_refl _))⟩
  exact ⟨Nat.le_trans (zll xs lo hi) hz, _, (r.drop (HT.sIx xs.length 0 lo)).take (HT.sIx xs.length xs.length hi - HT.sIx xs.length 0 lo), IsTup.new _ _⟩
def rCatT (K : PySem.W.Frag) : R2 := fun x y H Q => ∃ a b xs ys, x = .ref a /\ y = .ref b /\ SqT K H a xs /\ SqT K H b ys /\ xs ≠ [] /\ xs.length + ys.length ≤ sizeLine /\
  (ys = [] -> Q (.ref a) H) /\ (ys ≠ [] -> ∀ p, H p = none -> Q (.ref p) (upd H p (.tup (xs ++ ys))))
theorem Vals.nil_iff {xs : List V} {us : List Value} (r : Vals xs us) : us = [] ↔ xs = [] := by
  cases r with
  | nil => simp
  | cons _ _ => simp
theorem z0c : OpR X (binaryOp .Add) (rCatT X.K) := by
  intro pins s σ H x y v u Q I rx ry h
  obtain ⟨a, b, xs, ys, rfl, rfl, ha, hb, hx, hz, q1, q2⟩ := h
  cases rx
  cases ry
  obtain ⟨its, r1, p1, _⟩ := I.tuple ha
  obtain ⟨its2, r2, p2, _⟩ := I.tuple hb
  refine HT.z0u p1 p2 (fun z => hx (r1.nil_iff.mp z)) (fun z => ⟨.ref a, H, I, rfl, q1 (r2.nil_iff.mp z)⟩) (fun z => ?_) (by rw [<- r1.length, <- r2.length]; exact hz)
  refine ⟨.ref s.heap.objs.size, _, I.laid (t' := s.toks) (o := .tup (xs ++ ys)) (fun b ob q => Heap.get?_push_of_some _ q) (Nat.le_refl _) ?_, rfl, q2 (fun w => z (r2.nil_iff.mpr w)) _ (I.hok.fresh (Nat.le_refl _))⟩
  exact ⟨by rw [List.length_append]; exact hz, _, r1.append r2, IsTup.new _ _⟩
end
end L2
namespace L2
open PySem PySem.Spec PyProof.Rows
def ixN (n : Nat) (i : Int) : Option Nat := if 0 ≤ i then (if i < n then some i.toNat else none) else if -(n : Int) ≤ i then some (i + n).toNat else none
def atI {α : Type} (xs : List α) (i : Int) : Option α := (ixN xs.length i).bind fun j => xs[j]?
theorem zsn {n : Nat} {i : Int} {j : Nat} (h : ixN n i = some j) : seqIndex? i n = some j /\ j < n /\ -(n : Int) ≤ i /\ i < n := by
  unfold ixN at h
  by_cases h0 : 0 ≤ i
  · rw [if_pos h0] at h
    by_cases h1 : i < n
    · rw [if_pos h1] at h
      have e : i.toNat = j := Option.some.inj h
      exact ⟨by rw [seqIndex_of h0 h1, e], by omega, by omega, h1⟩
    · rw [if_neg h1] at h; cases h
  · rw [if_neg h0] at h
    by_cases h1 : -(n : Int) ≤ i
    · rw [if_pos h1] at h
      have e : (i + n).toNat = j := Option.some.inj h
      exact ⟨by rw [seqIndex_neg (by omega) h1, e], by omega, h1, by omega⟩
    · rw [if_neg h1] at h; cases h
theorem zoa {α : Type} {xs : List α} {i : Int} {v : α} (h : atI xs i = some v) : ∃ j, seqIndex? i xs.length = some j /\ xs[j]? = some v /\ j < xs.length /\ -(xs.length : Int) ≤ i /\ i < xs.length := by
  unfold atI at h
  cases e : ixN xs.length i with
  | none => rw [e] at h; cases h
  | some j =>
    rw [e] at h
    obtain ⟨h1, h2, h3, h4⟩ := zsn e
    exact ⟨j, h1, h, h2, h3, h4⟩
def zjr (b : Expr) : Prop := ∀ o i, subscripted b false o i = operate [o, i] (getItem o i)
def IxR (X : Cx) (r : R2) : Prop :=
  ∀ (value slice : Expr) (pins : List (Addr × Obj)) (s : Shared) (σ : St) (H : Hp) (x y : V) (v u : Value) (Q : VK), Inv X pins σ H s -> RelV x v -> RelV y u -> r x y H Q ->
    subscripted slice false v u = operate [v, u] (getItem v u) -> wpAny (model X.prog X.w) X.A (subscriptTail value slice v u) (EP X pins σ Q) X.xe s
def MtR (X : Cx) (id : String) (r : V -> List V -> Hp -> VK -> Prop) : Prop :=
  ∀ (pins : List (Addr × Obj)) (s : Shared) (σ : St) (H : Hp) (x : V) (xs : List V) (v : Value) (us : List Value) (Q : VK), Inv X pins σ H s -> RelV x v -> Vals xs us -> r x xs H Q ->
    wpAny (model X.prog X.w) X.A (call (.builtin id) (v :: us)) (EP X pins σ Q) X.xe s
section
variable {X : Cx} {a b : Expr} {ta tb : TE} {pos : Pos}
theorem IxR.or {r r' : R2} (h : IxR X r) (h' : IxR X r') : IxR X (fun x y H Q => r x y H Q \/ r' x y H Q) := by
  intro value slice pins s σ H x y v u Q I rx ry q hs
  rcases q with q | q
  · exact h value slice pins s σ H x y v u Q I rx ry q hs
  · exact h' value slice pins s σ H x y v u Q I rx ry q hs
theorem MtR.or {id : String} {r r' : V -> List V -> Hp -> VK -> Prop} (h : MtR X id r) (h' : MtR X id r') : MtR X id (fun x xs H Q => r x xs H Q \/ r' x xs H Q) := by
  intro pins s σ H x xs v us Q I rx rs q
  rcases q with q | q
  · exact h pins s σ H x xs v us Q I rx rs q
  · exact h' pins s σ H x xs v us Q I rx rs q
theorem pe_ix {r : R2} (hr : IxR X r) (ha : PE X a ta) (hb : PE X b tb) (hs : zjr b) : PE X (.Subscript a b pos) (tOp r ta tb) := by
  intro pins s σ H Q I h
  exact Subscript_ (binT ha hb I h fun v u s2 x y H2 I2 rx ry q => hr a b pins s2 σ H2 x y v u Q I2 rx ry q (hs _ _))
def rIxL (K : PySem.W.Frag) : R2 := fun x y H Q => ∃ p xs i v, x = .ref p /\ y = .int i /\ SqL K H p xs /\ atI xs i = some v /\ Q v H
def rIxT (K : PySem.W.Frag) : R2 := fun x y H Q => ∃ p xs i v, x = .ref p /\ y = .int i /\ SqT K H p xs /\ atI xs i = some v /\ Q v H
def rIxS : R2 := fun x y H Q => ∃ z i c, x = .str z /\ y = .int i /\ z.length ≤ sizeLine /\ atI z.cps.toList i = some c /\ Q (.str ⟨#[c]⟩) H
theorem z0f : IxR X (rIxL X.K) := by
  intro value slice pins s σ H x y v u Q I rx ry h hs
  obtain ⟨p, xs, i, z, rfl, rfl, hq, he, q⟩ := h
  cases rx
  obtain ⟨t, rfl⟩ := ry
  obtain ⟨its, r, pl, hz⟩ := I.list hq
  obtain ⟨j, h1, h2, h3, h4, h5⟩ := zoa he
  obtain ⟨w, ew, rw'⟩ := r.get h2
  have hl := r.length
  have hn := ziu
  have fin : EP X pins σ Q w s := ⟨z, H, I, rw', q⟩
  by_cases h0 : 0 ≤ i
  · have hj : i.toNat = j := by
      rw [seqIndex_of h0 h5] at h1
      exact Option.some.inj h1
    exact item_listR pl.isList h0 (by omega) (by rw [hj]; simpa using ew) fin hs
  · have hj : (i + (its.toArray.size : Int)).toNat = j := by
      rw [seqIndex_neg (by omega) h4] at h1
      rw [List.size_toArray, <- hl]
      exact Option.some.inj h1
    exact subscriptTail_builtinR (x := w) pl.isList.typeIs slot_list_getitem.lookup
      (wpAny_getItem_list_neg (Q := fun r s' => r = w /\ EP X pins σ Q r s') pl.isList (by omega) (by rw [List.size_toArray] <;> omega) (by omega) (by rw [hj]; simpa using ew) ⟨rfl, fin⟩) hs
theorem ix_tup : IxR X (rIxT X.K) := by
  intro value slice pins s σ H x y v u Q I rx ry h hs
  obtain ⟨p, xs, i, z, rfl, rfl, hq, he, q⟩ := h
  cases rx
  obtain ⟨t, rfl⟩ := ry
  obtain ⟨its, r, pl, hz⟩ := I.tuple hq
  obtain ⟨j, h1, h2, h3, h4, h5⟩ := zoa he
  obtain ⟨w, ew, rw'⟩ := r.get h2
  have hl := r.length
  have hn := ziu
  have fin : EP X pins σ Q w s := ⟨z, H, I, rw', q⟩
  exact subscriptTail_builtinR (x := w) pl.typeIs slot_tuple_getitem.lookup
    (getItem_tuple (j := j) (Q := fun r s' => r = w /\ EP X pins σ Q r s') pl (by omega) (by omega) (by rw [List.size_toArray, <- hl]; exact h1) (by simpa using ew) ⟨rfl, fin⟩) hs
theorem ix_str : IxR X rIxS := by
  intro value slice pins s σ H x y v u Q I rx ry h hs
  obtain ⟨z, i, c, rfl, rfl, hz, he, q⟩ := h
  obtain ⟨t, rfl⟩ := rx
  obtain ⟨t', rfl⟩ := ry
  obtain ⟨j, h1, h2, h3, h4, h5⟩ := zoa he
  have hl : z.cps.toList.length = z.length := by simp [Str.length]
  rw [hl] at h1 h4 h5
  have hn := ziu
  exact tail_any (typeIs_str s z t) slot_str_getitem.lookup (getItem_str (c := c) (by
    have e1 : decide (i < -(2 ^ 63 : Int)) = false := decide_eq_false (by omega)
    have e2 : decide (i ≥ 2 ^ 63) = false := decide_eq_false (by omega)
    rw [e1, e2, Bool.or_false]) (by rw [h1]; simpa using h2) ⟨.str ⟨#[c]⟩, H, I.tok _, ⟨_, rfl⟩, q⟩) hs
def rIx (K : PySem.W.Frag) : R2 := fun x y H Q => rIxL K x y H Q \/ rIxT K x y H Q \/ rIxS x y H Q
theorem ix_seq : IxR X (rIx X.K) := z0f.or (ix_tup.or ix_str)
theorem zto (its : List Value) (n j : Nat) (u : Value) : Obj.mapSeq (·.setIfInBounds j u) { cls := .type "list", data := .seq its.toArray n } = { cls := .type "list", data := .seq (its.set j u).toArray n } := by
  simp [Obj.mapSeq]
theorem Inv.lst {pins : List (Addr × Obj)} {σ : St} {H : Hp} {s : Shared} {p : Addr} {xs : List V} (I : Inv X pins σ H s) (h : H p = some (.lst xs)) :
    ∃ (its : List Value) (n : Nat), Vals xs its /\ s.heap.get? p = some { cls := .type "list", data := .seq its.toArray n } /\ xs.length ≤ sizeLine := by
  obtain ⟨z, its, n, r, e⟩ := I.hok p _ h
  exact ⟨its, n, r, e, z⟩
theorem Inv.lstUpd {pins : List (Addr × Obj)} {σ : St} {H : Hp} {s : Shared} {p : Addr} {xs ys : List V} {its its' : List Value} {n n' : Nat} {f : Obj -> Obj} (I : Inv X pins σ H s) (h : H p = some (.lst xs))
    (ho : s.heap.get? p = some { cls := .type "list", data := .seq its.toArray n }) (hf : f { cls := .type "list", data := .seq its.toArray n } = { cls := .type "list", data := .seq its'.toArray n' }) (r : Vals ys its') (hz : ys.length ≤ sizeLine) (t : Nat) :
    Inv X pins σ (upd H p (.lst ys)) { s with heap := s.heap.update p f, toks := t } := by
  have e : (s.heap.update p f).get? p = some { cls := .type "list", data := .seq its'.toArray n' } := by
    rw [Heap.get?_update_self f ho (by rw [hf] <;> rfl), hf]
  refine I.write (x := p) (e := p) (by rw [h]; trivial) (.inl rfl) (fun b u hb q => (Heap.get?_update_other _ _ (Ne.symm hb)).trans q) ⟨_, e⟩ ?_
  exact ⟨hz, its', n', r, e⟩
def rSetL : V -> V -> V -> Hp -> (Hp -> Prop) -> Prop := fun o i v H Q => ∃ p xs k j, o = .ref p /\ i = .int k /\ H p = some (.lst xs) /\ ixN xs.length k = some j /\ Q (upd H p (.lst (xs.set j v)))
theorem set_list : PSet X rSetL := by
  intro pins s σ H o i v ov iv u Q I ro ri rv h
  obtain ⟨p, xs, k, j, rfl, rfl, hp, hj, q⟩ := h
  cases ro
  obtain ⟨t, rfl⟩ := ri
  obtain ⟨its, n, r, ho, hz⟩ := I.lst hp
  obtain ⟨h1, h2, h3, h4⟩ := zsn hj
  have hl := r.length
  have hn := ziu
  have I' : Inv X pins σ (upd H p (.lst (xs.set j v))) { s with heap := s.heap.update p (Obj.mapSeq (·.setIfInBounds j u)) } :=
    I.lstUpd hp ho (zto its n j u) (r.set rv j) (by rw [List.length_set]; exact hz) s.toks
  by_cases h0 : 0 ≤ k
  · have hk : k.toNat = j := by
      rw [seqIndex_of h0 h4] at h1
      exact Option.some.inj h1
    exact PySem.W.ki_setAt ho h0 (by omega) (by rw [List.size_toArray, <- hl]; exact h4) (by rw [hk]; exact ⟨_, I', q⟩)
  · have hk : (k + (its.toArray.size : Int)).toNat = j := by
      rw [seqIndex_neg (by omega) h3] at h1
      rw [List.size_toArray, <- hl]
      exact Option.some.inj h1
    exact PySem.W.ki_setBack ho (by omega) (by rw [List.size_toArray, <- hl]; exact h3) (by omega) (by rw [hk]; exact ⟨_, I', q⟩)
theorem zpy (lo hi : Option Int) (n : Nat) : (sliceBounds lo hi none n).1 = ((HT.sIx n 0 lo : Nat) : Int) /\ (sliceBounds lo hi none n).2.1 = ((HT.sIx n n hi : Nat) : Int) /\ (sliceBounds lo hi none n).2.2 = 1 := by
  refine ⟨?_, ?_, rfl⟩
  · cases lo with
    | none => simp [sliceBounds, HT.sIx]
    | some i =>
      simp only [sliceBounds, HT.sIx, Option.getD_none, show (1 : Int) > 0 by decide, if_true]
      by_cases h : i < 0
      · simp only [h, if_true] <;> omega
      · simp only [h, if_false] <;> omega
  · cases hi with
    | none => simp [sliceBounds, HT.sIx]
    | some i =>
      simp only [sliceBounds, HT.sIx, Option.getD_none, show (1 : Int) > 0 by decide, if_true]
      by_cases h : i < 0
      · simp only [h, if_true] <;> omega
      · simp only [h, if_false] <;> omega
theorem zo2 (its : List Value) (lo hi : Option Int) : slicePick its.toArray lo hi none = ((its.drop (HT.sIx its.length 0 lo)).take (HT.sIx its.length its.length hi - HT.sIx its.length 0 lo)).toArray := by
  obtain ⟨h1, h2, h3⟩ := zpy lo hi its.toArray.size
  unfold slicePick
  rw [h1, h2, h3]
  simp only [sliceRange_one, pick_run, List.size_toArray] <;> rfl
def rSlL (K : PySem.W.Frag) : V -> Option Int -> Option Int -> Hp -> VK -> Prop := fun x lo hi H Q => ∃ a xs, x = .ref a /\ SqL K H a xs /\ ∀ p, H p = none -> Q (.ref p) (upd H p (.lst (zkx xs lo hi)))
theorem zzo : SlR X (rSlL X.K) := by
  intro pins s σ H x v vl vu lo hi sl Q I rx hs pl pu h
  obtain ⟨a, xs, rfl, hx, q⟩ := h
  cases rx
  obtain ⟨its, r, ht, hz⟩ := I.list hx
  have hlen := r.length
  refine ⟨"list", _, slot_list_getitem.lookup, ht.isList.typeIs, ?_⟩
  refine wpAny_getItem_list_slice ht.isList hs pl pu .none (by simp) ?_ (by rw [List.size_toArray] <;> omega)
  rw [zo2, <- hlen]
  refine ⟨.ref s.heap.objs.size, _, I.laid (t' := s.toks) (o := .lst (zkx xs lo hi)) (fun b ob q => Heap.get?_push_of_some _ q) (Nat.le_refl _) ?_, rfl, q _ (I.hok.fresh (Nat.le_refl _))⟩
  exact ⟨Nat.le_trans (zll xs lo hi) hz, _, 0, (r.drop (HT.sIx xs.length 0 lo)).take (HT.sIx xs.length xs.length hi - HT.sIx xs.length 0 lo), Heap.get?_push_size _ rfl⟩
theorem zre : zdr X (.builtin "len") (fun xs H Q => ∃ p ys, xs = [.ref p] /\ (SqL X.K H p ys \/ SqT X.K H p ys) /\ Q (.int ys.length) H) := by
  intro pins s σ H xs us Q I r h
  obtain ⟨p, ys, rfl, hq, q⟩ := h
  obtain ⟨u, rfl, rx⟩ := vals1 r
  cases rx
  have hn := ziu
  rcases hq with hq | hq
  · obtain ⟨its, r', pl, hz⟩ := I.list hq
    have hlen := r'.length
    exact Calls.call_len_list pl.isList (by simp only [List.size_toArray] <;> omega) ⟨.int ys.length, H, I.tok _, ⟨s.toks + 1, by rw [List.size_toArray, hlen]⟩, q⟩
  · obtain ⟨its, r', pl, hz⟩ := I.tuple hq
    have hlen := r'.length
    exact len_tuple pl (by simp only [List.size_toArray] <;> omega) ⟨.int ys.length, H, I.tok _, ⟨s.toks + 1, by rw [List.size_toArray, hlen]⟩, q⟩
theorem zrd : zdr X (.builtin "len") (fun xs H Q => ∃ z, xs = [.str z] /\ z.length ≤ sizeLine /\ Q (.int z.length) H) := by
  intro pins s σ H xs us Q I r h
  obtain ⟨z, rfl, hz, q⟩ := h
  obtain ⟨u, rfl, t, rfl⟩ := vals1 r
  have hn := ziu
  exact len_str (by omega) ⟨.int z.length, H, I.tok _, ⟨_, rfl⟩, q⟩
theorem zdr.or {f : Value} {r r' : List V -> Hp -> VK -> Prop} (h : zdr X f r) (h' : zdr X f r') : zdr X f (fun xs H Q => r xs H Q \/ r' xs H Q) := by
  intro pins s σ H xs us Q I rs q
  rcases q with q | q
  · exact h pins s σ H xs us Q I rs q
  · exact h' pins s σ H xs us Q I rs q
theorem zrc : zdr X (.type "list") (fun xs H Q => ∃ p ys, xs = [.ref p] /\ (SqL X.K H p ys \/ SqT X.K H p ys) /\ ∀ l, H l = none -> Q (.ref l) (upd H l (.lst ys))) := by
  intro pins s σ H xs us Q I r h
  obtain ⟨p, ys, rfl, hq, q⟩ := h
  obtain ⟨u, rfl, rx⟩ := vals1 r
  cases rx
  have fin : ∀ (its : List Value), Vals ys its -> ys.length ≤ sizeLine -> ∀ (h' : Heap) (c' : Nat), (∀ b o', s.heap.get? b = some o' -> h'.get? b = some o') ->
      h'.get? s.heap.objs.size = some { cls := .type "list", dict := none, data := .seq its.toArray c', slots := #[] } -> EP X pins σ Q (.ref s.heap.objs.size) { s with heap := h' } := fun its r' hz h' c' kp e =>
    ⟨.ref s.heap.objs.size, _, I.laid (t' := s.toks) kp (Nat.le_refl _) (show zdq X.prog X.w _ h' _ (.lst ys) from ⟨hz, its, c', r', e⟩), rfl, q _ (I.hok.fresh (Nat.le_refl _))⟩
  rcases hq with hq | hq
  · obtain ⟨its, r', pl, hz⟩ := I.list hq
    have hlen := r'.length
    obtain ⟨o, ho, hc, n, hd⟩ := pl.isList
    exact call_list_seq p (.inl rfl) ho hc hd (fun h' c' kp e => fin its r' hz h' c' kp e) (by simp only [List.size_toArray] <;> omega)
  · obtain ⟨its, r', pl, hz⟩ := I.tuple hq
    have hlen := r'.length
    obtain ⟨o, ho, hc, n, hd⟩ := pl
    exact call_list_seq p (.inr rfl) ho hc hd (fun h' c' kp e => fin its r' hz h' c' kp e) (by simp only [List.size_toArray] <;> omega)
theorem zpg : zdr X (.type "tuple") (fun xs H Q => ∃ p ys, xs = [.ref p] /\ ((SqL X.K H p ys /\ ∀ l, H l = none -> Q (.ref l) (upd H l (.tup ys))) \/ (SqT X.K H p ys /\ Q (.ref p) H))) := by
  intro pins s σ H xs us Q I r h
  obtain ⟨p, ys, rfl, h⟩ := h
  obtain ⟨u, rfl, rx⟩ := vals1 r
  cases rx
  rcases h with ⟨hq, q⟩ | ⟨hq, q⟩
  · obtain ⟨its, r', pl, hz⟩ := I.list hq
    have hlen := r'.length
    refine call_tuple_list pl.isList (fun h' kp => ?_) (by simp only [List.size_toArray] <;> omega)
    have I1 : Inv X pins σ H { s with heap := h' } := I.kept (t' := s.toks) kp
    have I2 : Inv X pins σ (upd H h'.objs.size (.tup ys)) { s with heap := h'.push { cls := .type "tuple", data := .seq its.toArray } } :=
      I1.laid (t' := s.toks) (fun b o e => Heap.get?_push_of_some _ e) (Nat.le_refl _) (show zdq X.prog X.w _ _ _ (.tup ys) from ⟨hz, its, r', IsTup.new _ _⟩)
    exact ⟨.ref h'.objs.size, _, I2, rfl, q _ (I1.hok.fresh (Nat.le_refl _))⟩
  · obtain ⟨its, r', pl, hz⟩ := I.tuple hq
    exact call_tuple_same pl ⟨.ref p, H, I, rfl, q⟩
def tyV (K : PySem.W.Frag) (T : String) (x : V) (H : Hp) : Prop := match x with
  | .str _ => T = "str"
  | .int _ => T = "int"
  | .ref p => (T = "list" /\ ∃ xs, SqL K H p xs) \/ (T = "tuple" /\ ∃ o, K.lookup p = some o /\ o.cls = .type "tuple" /\ o.dict = none) \/
      (T = "dict" /\ ((∃ kvs, H p = some (.dK kvs)) \/ ∃ kvs, H p = some (.dT kvs))) \/ (T = "set" /\ ∃ S n, H p = some (.set S n))
  | _ => False
theorem tyV_is {pins : List (Addr × Obj)} {σ : St} {H : Hp} {s : Shared} {T : String} {x : V} {v : Value} (I : Inv X pins σ H s) (r : RelV x v) (ty : tyV X.K T x H) :
    s.TypeIs v T /\ ∀ a, v = .ref a -> ∃ ob, s.heap.get? a = some ob /\ ob.dict = none := by
  cases x with
  | str z =>
    obtain ⟨t, rfl⟩ := r
    cases (show T = "str" from ty)
    exact ⟨typeIs_str s z t, fun _ e => nomatch e⟩
  | int i =>
    obtain ⟨t, rfl⟩ := r
    cases (show T = "int" from ty)
    exact ⟨typeIs_int s i t, fun _ e => nomatch e⟩
  | ref p =>
    cases r
    rcases ty with ⟨rfl, xs, hq⟩ | ⟨rfl, o, hk, hc, hd⟩ | ⟨rfl, hk⟩ | ⟨rfl, S, n, hk⟩
    · obtain ⟨its, _, pl, _⟩ := I.list hq
      refine ⟨pl.isList.typeIs, fun a e => ?_⟩
      cases e
      obtain ⟨o, n, e, c, hd, _⟩ := pl
      exact ⟨o, e, hd⟩
    · refine ⟨⟨o, I.kIn p o hk, hc⟩, fun a e => ?_⟩
      cases e
      exact ⟨o, I.kIn _ o hk, hd⟩
    · have z : ∃ o, s.heap.get? p = some o /\ o.ExactDict := by
        rcases hk with ⟨kvs, hk⟩ | ⟨kvs, hk⟩
        · obtain ⟨_, _, _, _, o, _, _, e, ex, _⟩ := I.hok p _ hk
          exact ⟨o, e, ex⟩
        · obtain ⟨_, _, _, _, o, _, _, e, ex, _⟩ := I.hok p _ hk
          exact ⟨o, e, ex⟩
      obtain ⟨o, e, ex⟩ := z
      refine ⟨⟨o, e, ex.1⟩, fun a e2 => ?_⟩
      cases e2
      exact ⟨o, e, ex.2.1⟩
    · obtain ⟨o, _, _, _, e, ex, _⟩ := I.hok p _ hk
      refine ⟨⟨o, e, ex.1⟩, fun a e2 => ?_⟩
      cases e2
      exact ⟨o, e, ex.2.1⟩
  | _ => exact False.elim ty
def tBM (K : PySem.W.Frag) (T : String) (r : V -> List V -> Hp -> VK -> Prop) (to : TE) (t : TA) : TE := fun σ H Q => to σ H fun x H1 => tyV K T x H1 /\ t σ H1 fun xs H2 => r x xs H2 Q
variable {o e : Expr} {es : List Expr} {to : TE} {t : TA} {name : Str} {apos cpos : Pos} {T id : String} {r : V -> List V -> Hp -> VK -> Prop}
theorem pe_bm (pa : PlainAttrs T) (slot : Slot T name id) (hty : typeOf (.builtin id) = pure (.type "method_descriptor")) (hm : MtR X id r) (ho : PE X o to) (ha : PA X (e :: es) t)
    (hbase : attributeBase o name X.env (eval o X.env) = eval o X.env := by rfl)
    (hfew : ((backTo cpos (starEach (e :: es) X.env)).all (fun x => !x.1) && (backToKw cpos (keywordEach [] X.env)).all (fun x => x.1.isSome)
      && decide ((e :: es).length + ([] : List Keyword).length + (if ([] : List Keyword).isEmpty then 0 else 1) < 30)) = true := by rfl)
    (hline : (apos.endLine == cpos.line) = true := by rfl) (hs : starEach (e :: es) X.env = (false, eval e X.env) :: starEach es X.env := by rfl) (hplain : (backTo cpos (starEach es X.env)).any (·.1) = false := by rfl) :
    PE X (.Call (.Attribute o name apos) (e :: es) [] cpos) (tBM X.K T r to t) := by
  intro pins s σ H Q I h
  refine wpAny_Call_method_late hbase hfew hline rfl (thn (ho pins s σ H _ I h) fun v s1 ⟨x, H1, I1, r1, ty, q1⟩ => ?_)
  obtain ⟨h1, h2⟩ := tyV_is I1 r1 ty
  refine ⟨T, id, pa, slot, hty, h1, h2, ?_⟩
  have hA := ha cpos pins s1 σ H1 _ I1 q1
  rw [hs] at hA ⊢
  refine Calls.callWith_builtin (by show (false || (backTo cpos (starEach es X.env)).any (·.1)) = false; rw [hplain] <;> rfl) (Calls.evalArgs_plain ?_)
  exact thn hA fun us s2 ⟨vs, H2, I2, r2, q2⟩ => hm pins s2 σ H2 x vs v us Q I2 r1 r2 q2
end
end L2
namespace L2
open PySem PySem.Spec PyProof.Rows
def MtM (X : Cx) (id : String) (r : V -> List V -> Hp -> VK -> Prop) : Prop :=
  ∀ (pins : List (Addr × Obj)) (s : Shared) (σ : St) (H : Hp) (x : V) (xs : List V) (v : Value) (us : List Value) (Q : VK), Inv X pins σ H s -> RelV x v -> Vals xs us -> r x xs H Q ->
    wpAny (model X.prog X.w) X.A (call (.builtin id) (v :: us)) (EP X pins σ Q) X.xe s
theorem Vals.one : ∀ {x : V} {us : List Value}, Vals [x] us -> ∃ u, us = [u] /\ RelV x u
  | _, _, .cons r .nil => ⟨_, rfl, r⟩
theorem Vals.two : ∀ {x y : V} {us : List Value}, Vals [x, y] us -> ∃ u v, us = [u, v] /\ RelV x u /\ RelV y v
  | _, _, _, .cons r (.cons q .nil) => ⟨_, _, rfl, r, q⟩
theorem Vals.zero : ∀ {us : List Value}, Vals [] us -> us = []
  | _, .nil => rfl
theorem Vals.dropLast {xs : List V} {us : List Value} (h : Vals xs us) : Vals xs.dropLast us.dropLast := by
  induction h with
  | nil => exact .nil
  | cons r t ih =>
    cases t with
    | nil => exact .nil
    | cons q t' => exact .cons r ih
theorem Vals.reverse {xs : List V} {us : List Value} (h : Vals xs us) : Vals xs.reverse us.reverse := by
  induction h with
  | nil => exact .nil
  | cons r t ih => rw [List.reverse_cons, List.reverse_cons]; exact Vals.append ih (.cons r .nil)
theorem Vals.rep {xs : List V} {us : List Value} (h : Vals xs us) : ∀ k : Nat, Vals (List.replicate k xs).flatten (List.replicate k us).flatten
  | 0 => .nil
  | k + 1 => by
    rw [List.replicate_succ, List.replicate_succ, List.flatten_cons, List.flatten_cons]
    exact Vals.append h (Vals.rep h k)
theorem foldl_rep (its : List Value) : ∀ (k : Nat) (acc : List Value),
    List.foldl (fun x1 x2 => x1 ++ x2) acc.toArray (List.replicate k its.toArray) = (acc ++ (List.replicate k its).flatten).toArray
  | 0, acc => by simp
  | k + 1, acc => by
    have e : acc.toArray ++ its.toArray = (acc ++ its).toArray := by simp
    have e2 : (acc ++ its) ++ (List.replicate k its).flatten = acc ++ (List.replicate (k + 1) its).flatten := by
      rw [List.replicate_succ, List.flatten_cons, List.append_assoc]
    rw [<- e2, <- foldl_rep its k (acc ++ its), <- e, List.replicate_succ, List.foldl_cons]
section
variable {X : Cx} {pins : List (Addr × Obj)} {σ : St} {H : Hp} {s : Shared} {l b : Addr} {xs ys zs : List V}
theorem Inv.lset {its its' : List Value} {n : Nat} {f : Array Value -> Array Value} {t' : Nat} (I : Inv X pins σ H s) (hH : H l = some (.lst xs))
    (e : s.heap.get? l = some { cls := .type "list", data := .seq its.toArray n }) (hf : f its.toArray = its'.toArray) (hv : Vals ys its') (hz : ys.length ≤ sizeLine) :
    Inv X pins σ (upd H l (.lst ys)) { s with heap := s.heap.update l (Obj.mapSeq f), toks := t' } := by
  have q := PySem.IsL.update e f
  rw [hf] at q
  refine I.write (x := l) (e := l) (by rw [hH]; exact trivial) (.inl rfl) (fun b' u hb hu => (Heap.get?_update_other s.heap (Obj.mapSeq f) (Ne.symm hb)).trans hu) ⟨_, q⟩ ?_
  exact ⟨hz, its', _, hv, q⟩
theorem Inv.lnew {its : List Value} {t' : Nat} (I : Inv X pins σ H s) (hv : Vals ys its) (hz : ys.length ≤ sizeLine) :
    Inv X pins σ (upd H s.heap.objs.size (.lst ys)) { s with heap := s.heap.push { cls := .type "list", data := .seq its.toArray }, toks := t' } :=
  I.laid (fun _ _ q => Heap.get?_push_of_some _ q) (Nat.le_refl _) ⟨hz, its, 0, hv, Heap.get?_push_size _ rfl⟩
theorem Inv.fresh (I : Inv X pins σ H s) : H s.heap.objs.size = none := I.hok.fresh (Nat.le_refl _)
theorem Inv.lstM (I : Inv X pins σ H s) (hH : H l = some (.lst xs)) : xs.length ≤ sizeLine /\ ∃ (its : List Value) (n : Nat), Vals xs its /\ xs.length = its.length /\ s.heap.get? l = some { cls := .type "list", data := .seq its.toArray n } := by
  obtain ⟨z, its, n, r, e⟩ := I.hok l _ hH
  exact ⟨z, its, n, r, r.length, e⟩
theorem zqn {n : Nat} (h : n ≤ sizeLine) : Builtin.List.listTooLong n = false := by
  unfold Builtin.List.listTooLong
  exact decide_eq_false (by omega)
end
section
variable {X : Cx}
def zzu : V -> List V -> Hp -> VK -> Prop := fun x vs H Q => ∃ l xs y, x = .ref l /\ vs = [y] /\ H l = some (.lst xs) /\ xs.length < sizeLine /\ Q .non (upd H l (.lst (xs ++ [y])))
theorem zoo : MtM X "list.append" zzu := by
  intro pins s σ H x vs v us Q I rx rv h
  obtain ⟨l, xs, y, rfl, rfl, hH, hz, q⟩ := h
  cases rx
  obtain ⟨u, rfl, ru⟩ := rv.one
  obtain ⟨z, its, n, r, hl, e⟩ := I.lstM hH
  refine call_meets F.slot_list_append ⟨_, e, rfl⟩ F.entry_list_append (F.args_list_append_2 _ _) (PySem.list_append l its.toArray n u (by rw [List.size_toArray]; omega)) ⟨e, ?_⟩
  refine ⟨.non, _, I.lset (its' := its ++ [u]) hH e (by simp) (r.append (.cons ru .nil)) ?_, rfl, q⟩
  rw [List.length_append, List.length_singleton]
  omega
def zzt : V -> List V -> Hp -> VK -> Prop := fun x vs H Q => ∃ l b xs zs, x = .ref l /\ vs = [.ref b] /\ H l = some (.lst xs) /\ H b = some (.lst zs) /\ xs.length + zs.length ≤ sizeLine /\ Q .non (upd H l (.lst (xs ++ zs)))
theorem mt_extend : MtM X "list.extend" zzt := by
  intro pins s σ H x vs v us Q I rx rv h
  obtain ⟨l, b, xs, zs, rfl, rfl, hH, hB, hz, q⟩ := h
  cases rx
  obtain ⟨u, rfl, ru⟩ := rv.one
  cases ru
  obtain ⟨z, its, n, r, hl, e⟩ := I.lstM hH
  obtain ⟨z2, its2, n2, r2, hl2, e2⟩ := I.lstM hB
  have hsz : its.toArray.size + its2.toArray.size ≤ sizeLine := by rw [List.size_toArray, List.size_toArray]; omega
  have hlong : ¬ (!its.toArray.isEmpty && Builtin.List.listTooLong (its.toArray.size + its2.toArray.size)) = true := by
    rw [zqn hsz, Bool.and_false]
    exact Bool.false_ne_true
  refine call_meets F.slot_list_extend ⟨_, e, rfl⟩ F.entry_list_extend (F.args_list_extend_2 _ _)
    (AutoSeq1.list_extend_list_list_0 l its.toArray n b its2.toArray n2 hlong (by rw [List.size_toArray]; omega) (by omega)) ⟨e, e2, ?_⟩
  refine ⟨.non, _, I.lset (its' := its ++ its2) hH e (by simp) (r.append r2) ?_, rfl, q⟩
  rw [List.length_append]
  omega
def rCat : R2 := fun x y H Q => ∃ l b xs zs, x = .ref l /\ y = .ref b /\ H l = some (.lst xs) /\ H b = some (.lst zs) /\ xs.length + zs.length ≤ sizeLine /\ ∀ p, H p = none -> Q (.ref p) (upd H p (.lst (xs ++ zs)))
theorem op_cat : OpR X (binaryOp .Add) rCat := by
  intro pins s σ H x y v u Q I rx ry h
  obtain ⟨l, b, xs, zs, rfl, rfl, hH, hB, hz, q⟩ := h
  cases rx
  cases ry
  obtain ⟨z, its, n, r, hl, e⟩ := I.lstM hH
  obtain ⟨z2, its2, n2, r2, hl2, e2⟩ := I.lstM hB
  refine PySem.P.add_list e e2 ?_ (by rw [List.size_toArray, List.size_toArray]; omega)
  have ea : its.toArray ++ its2.toArray = (its ++ its2).toArray := by simp
  rw [ea]
  exact ⟨.ref _, _, I.lnew (t' := s.toks) (r.append r2) (by rw [List.length_append]; omega), rfl, q _ I.fresh⟩
def rRep : R2 := fun x y H Q => ∃ l k xs, x = .ref l /\ y = .int k /\ H l = some (.lst xs) /\ -(2 ^ 63) ≤ k /\ k < 2 ^ 63 /\ xs.length * k.toNat ≤ sizeLine /\
  ∀ p, H p = none -> Q (.ref p) (upd H p (.lst (List.replicate k.toNat xs).flatten))
theorem len_rep {α : Type} (xs : List α) (k : Nat) : (List.replicate k xs).flatten.length = k * xs.length := by
  induction k with
  | zero => simp
  | succ k ih => rw [List.replicate_succ, List.flatten_cons, List.length_append, ih, Nat.succ_mul, Nat.add_comm]
theorem op_rep : OpR X (binaryOp .Mult) rRep := by
  intro pins s σ H x y v u Q I rx ry h
  obtain ⟨l, k, xs, rfl, rfl, hH, h1, h2, hz, q⟩ := h
  cases rx
  obtain ⟨t, rfl⟩ := ry
  obtain ⟨z, its, n, r, hl, e⟩ := I.lstM hH
  have hlen : its.toArray.size * k.toNat ≤ sizeLine := by rw [List.size_toArray, <- hl]; exact hz
  have hcap : ¬ its.toArray.size * k.toNat > (2 ^ 63 - 1) / 8 := by
    have : (sizeLine : Nat) ≤ (2 ^ 63 - 1) / 8 := by decide
    omega
  have hfit : ¬ (!Builtin.List.listFitsIndex k) = true := by
    rw [fitsIndex_both h1 h2]
    exact Bool.false_ne_true
  have hlong : ¬ Builtin.List.listTooLong (its.toArray.size * k.toNat) = true := by
    rw [zqn hlen]
    exact Bool.false_ne_true
  have hnew : List.foldl (fun x1 x2 => x1 ++ x2) #[] (List.replicate (if its.toArray.isEmpty = true then 0 else k.toNat) its.toArray) = (List.replicate k.toNat its).flatten.toArray := by
    have f0 : ∀ m : Nat, List.foldl (fun x1 x2 => x1 ++ x2) #[] (List.replicate m its.toArray) = (List.replicate m its).flatten.toArray := fun m => by
      have := foldl_rep its m []
      rw [List.nil_append] at this
      exact this
    rw [f0]
    cases its with
    | nil => simp
    | cons a r' => rw [if_neg (by simp)]
  refine wpAny_binaryOp_repeat_ref (T := "list") (U := "int") (by decide) ⟨_, e, rfl⟩ (fun s' => typeIs_int s' k t) noFill_list_mul F.fills_int_mul F.slot_int_rmul repeat_list F.slot_int_index.lookup
    (call_meets F.slot_int_rmul (typeIs_int s k t) F.entry_int_rmul (F.args_int_rmul_2 _ _) (int___rmul___int_list k t l its.toArray n)
      ⟨e, rfl, ⟨_, e, rfl⟩, call_meets F.slot_list_mul ⟨_, e, rfl⟩ F.entry_list_mul (F.args_list_mul_2 _ _) (AutoListH.list___mul___list_int_3 l its.toArray n k t hfit hcap hlong) ⟨e, ?_⟩⟩)
  rw [hnew]
  exact ⟨.ref _, _, I.lnew (t' := s.toks) (r.rep k.toNat) (by rw [len_rep, Nat.mul_comm]; exact hz), rfl, q _ I.fresh⟩
end
section
variable {prog : Program} {w : World} {A : Around} {E : Value -> Shared -> Prop} {s : Shared}
end
section
variable {X : Cx}
end
end L2
namespace Att
open PySem PySem.W PySem.Calls PyProof.Rows
theorem zmz {P : Params} {h : Heap} : ∀ (ns : List Int) (vs : List Value), WellAll P h vs (ns.map WData.int) -> IntsAre vs ns := by
  intro ns
  induction ns with
  | nil =>
    intro vs w
    rw [List.map_nil] at w
    cases w
    exact .nil
  | cons n ns ih =>
    intro vs w
    rw [List.map_cons] at w
    cases w with
    | cons a b =>
      cases a
      exact .cons _ _ (ih _ b)
theorem zuw {l : OpenLaw} {n : Nat} (hn : l.most = some n) {P : Params} {h : Heap} {args : List WData} {vals : List Value}
    (hpre : l.row.toRowW.claim.pre args = true) (hwl : WellAll P h vals args) :
    ∃ a vs ns, vals = [Value.ref a] /\ args = [WData.list (ns.map WData.int)] /\ h.get? a = some { cls := .type "list", data := .seq vs.toArray } /\ IntsAre vs ns /\ ns.length ≤ n := by
  have hsh : WShape.hasAll [] args [.list .int] = true := (pre_splitW hpre).1
  have hc : l.pre.holds [] { args := args } = true := (pre_splitW hpre).2
  obtain ⟨d, r, rfl, h1, h2⟩ := hasAllW_cons hsh
  obtain rfl := hasAllW_nil h2
  obtain ⟨xs, rfl, h3⟩ := hasW_list h1
  obtain ⟨ns, rfl⟩ := items_int h3
  have hlen : ns.length ≤ n := by
    unfold OpenLaw.pre at hc
    have h4 : (WTm.not (.lt (.lit (.int (n : Int))) (.len (.arg 0)))).holds [] { args := [.list (ns.map .int)] } = true := by
      have h4 := (holds_andW hc).1
      rw [hn] at h4
      exact h4
    have h5 := condW_of h4 (w_not (w_lt w_lit (w_len_list (w_arg rfl))))
    rw [List.length_map] at h5
    refine Nat.le_of_not_lt fun q => ?_
    have q' : (n : Int) < ((ns.length : Nat) : Int) := by omega
    first
      | (rw [decide_eq_true q'] at h5; exact absurd h5 (by decide))
      | (simp at h5; omega)
  cases hwl with
  | cons w1 w2 =>
    cases w2
    cases w1 with
    | list ho hall => exact ⟨_, _, ns, rfl, rfl, ho, zmz ns _ hall, hlen⟩
theorem zvc (l : OpenLaw) (args : List WData) : l.row.toRowW.claim.post args (.bool true) args = true :=
  postW_of (r := l.row.toRowW) (X := (true == true))
    (show WShape.has [] (.bool true) .bool = true by first | rfl | decide | simp [WShape.has, WShape.arms, WShape.armsAll])
    (show (WTm.eq .res (.lit (.bool true))).value [] { args := args, res := some (.bool true), after := args } = some (.bool (true == true)) from w_eq_bool (w_res rfl) w_lit) rfl
theorem attach_call {l : OpenLaw} {n : Nat} {q : Program} {loose : List Str} {XP : (Str -> Option Value) -> Heap -> Prop} {YP : World -> Heap -> Prop} {d : DefRec}
    (hn : l.most = some n) (hdf : d.params.defaults = [])
    (call : ∀ (w : World) (s₀ s₁ : Shared) (mg mb : Str -> Option Value) (fa : Addr) (o : Obj) (pm cd doc : Value) (a : Addr) (vs : List Value) (ns : List Int),
      Ground q loose [] XP w s₀ mg mb s₁.heap -> YP w s₁.heap ->
      s₁.heap.get? fa = some o -> o.data = .func (docDef d.name d.params d.body d.scope pm cd doc) -> s₁.heap.CodeRec cd d.name -> mg d.name = some (.ref fa) ->
      s₁.heap.get? a = some { cls := .type "list", data := .seq vs.toArray } -> IntsAre vs ns -> ns.length ≤ n -> s₁.gens = #[] ->
      codeAny (model l.prog w) callerA (.call (.ref fa) ⟨[.ref a], []⟩) (fun r s' => r = .ok (.ret (.bool true)) /\ OldK s₁.heap s'.heap /\ s'.os = s₁.os /\ AllBare s'.gens) s₁) :
    WalkO q loose XP YP l.row.toRowW d [] (fun f vs => PySem.call f vs) := by
  intro w s₀ s₁ mg mb G Y fa o pm cd doc dV kV ho hd hcd hD hmg hg args vals as hpre hlay hrd hwl hlo
  obtain rfl : dV = .none := Dflts.none hD hdf
  obtain rfl : kV = .none := Dflts.noKw hD
  obtain ⟨a, vs, ns, rfl, rfl, hobj, hints, hlen⟩ := zuw hn hpre hwl
  refine enter_call (codeAny_mono (call w s₀ s₁ mg mb fa o pm cd doc a vs ns G Y ho (fd_plain hd) hcd hmg hobj hints hlen hg) fun r s' hq => ?_)
  obtain ⟨rfl, h2, h3, h4⟩ := hq
  exact ⟨.inl ⟨.bool true, .bool true, [], rfl, fun _ => rfl, .bool true, zvc l _, fun _ => ⟨List.Pairwise.nil, fun _ hm => (nomatch hm)⟩⟩, h2, h3, h4⟩
section
variable {prog : Program} {w : World} {A : Around} {E : Value -> Shared -> Prop} {s : Shared} {K : Frag}
end
end Att
namespace L2
open PySem PySem.Spec PyProof.Rows
theorem zoe : ∀ {vs : List Value} {ns : List Int}, IntsAre vs ns -> Vals (ns.map V.int) vs
  | _, _, .nil => .nil
  | _, _, .cons n t h => .cons ⟨t, rfl⟩ (zoe h)
def Only (H : Hp) : Prop := ∀ b, H b = none \/ ∃ o xs, H b = some (.frz o (.lst xs))
theorem zx3 {P : Program} {w : World} {K : PySem.W.Frag} {mg mb : Str -> Option Value} {CX : CXT} {k : Nat} {fa a : Addr} {fd : FuncData} {x : Str} {sp : Sp} {s₁ : Shared} {vs : List Value} {ns : List Int}
    (KX : K.In s₁.heap) (hns : s₁.heap.Ns mainGlobals mg) (hb : s₁.heap.Ns builtinsNs mb) (hbb : ∀ x : Str, x ≠ "__name__" -> mb x = bootBuiltins x) (hlim : s₁.heap.NoLimit) (hg : s₁.gens = #[])
    (ha : s₁.heap.get? a = some { cls := .type "list", data := .seq vs.toArray }) (hi : IntsAre vs ns) (hl : ns.length ≤ sizeLine) (hr : zbe k callerA)
    (F : ∀ base : Heap, K.In base -> base.Ns mainGlobals mg -> zh7 P w K mg base CX k fa fd [x] sp) (hbind : ∀ (s : Shared) (u : Value), BindsTo s fd ⟨[u], []⟩ [(x, u)])
    (hsp : ∀ H : Hp, Only H -> SqL K H a (ns.map V.int) -> sp [.ref a] H (fun v _ => v = .bl true) fun _ _ _ => False)
    (hCX : ∀ H e s', CX [] H s₁ (fun _ _ _ => False) e s' -> False) :
    codeAny (model P w) callerA (.call (.ref fa) ⟨[.ref a], []⟩) (fun r s' => r = .ok (.ret (.bool true)) /\ OldK s₁.heap s'.heap /\ s'.os = s₁.os /\ AllBare s'.gens) s₁ := by
  have rv := zoe hi
  have lenV := hi.length
  have core : ∀ H : Hp, Only H -> SqL K H a (ns.map V.int) -> HOk P w H s₁.heap -> (∀ b, H b ≠ none -> b = a) -> (H a ≠ none -> K.lookup a = none) ->
      codeAny (model P w) callerA (.call (.ref fa) ⟨[.ref a], []⟩) (fun r s' => r = .ok (.ret (.bool true)) /\ OldK s₁.heap s'.heap /\ s'.os = s₁.os /\ AllBare s'.gens) s₁ := by
    intro H hO hS hok hA hK
    have base_of : ∀ {b : Addr} {o : Obj}, s₁.heap.get? b = some o -> H b = none -> (zj6 s₁.heap H).get? b = some o := fun e n => zx6 e n
    have noA : ∀ {b : Addr} {o : Obj} {es : Array DictEntry} {ep : Nat}, s₁.heap.get? b = some o -> o.data = .dict es ep -> H b = none := fun {b o es ep} e d => by
      cases q : H b with
      | none => rfl
      | some u =>
        have e' : b = a := hA b (by rw [q]; simp)
        subst e'
        rw [ha] at e; cases e
        have d' : Data.seq vs.toArray _ = Data.dict es ep := d
        cases d'
    have nsK : ∀ {b : Addr} {m : Str -> Option Value}, s₁.heap.Ns b m -> (zj6 s₁.heap H).Ns b m := fun {b m} ⟨o, es, ep, e, d, r⟩ => ⟨o, es, ep, base_of e (noA e d), d, r⟩
    have hKb : K.In (zj6 s₁.heap H) := fun b o e => base_of (KX b o e) (by
      cases q : H b with
      | none => rfl
      | some u =>
        have e' : b = a := hA b (by rw [q]; simp)
        subst e'
        rw [hK (by rw [q]; simp)] at e; cases e)
    have hM : Mod K mg (zj6 s₁.heap H) := ⟨hKb, nsK hns, ⟨mb, nsK hb, hbb⟩, let ⟨mc, h1, h2⟩ := hlim; ⟨mc, nsK h1, h2⟩⟩
    have e0 : zl5 P w K mg (zj6 s₁.heap H) callerA [] s₁ H := ⟨rfl, hM, fun b o e => z0d e, Nat.le_of_eq (zv5 _ _), trivial, fun b hb => absurd (show b ∈ ([] : List Addr) from hb) (by simp), hok, .of_eq hg⟩
    refine codeAny_mono ((F _ hKb (nsK hns)).run callerA [] s₁ H ⟨[.ref a], []⟩ [.ref a] [.ref a] _ _ hr e0 (hbind s₁ (.ref a)) (.cons rfl .nil) (hsp H hO hS)) fun r s' h => ?_
    cases r with
    | error e => exact (hCX H e s' h).elim
    | ok fl =>
      cases fl with
      | next => exact False.elim h
      | brk => exact False.elim h
      | cont => exact False.elim h
      | ret u =>
        obtain ⟨v, H', os, bare, un, hok', r', q⟩ := h
        have q' : v = .bl true := q
        subst q'
        obtain rfl : u = Value.bool true := r'
        refine ⟨rfl, OldK.of_keep fun b o e => ?_, os, bare⟩
        cases q : H b with
        | none => exact un.keep b o e q (by intro z; exact absurd (show b ∈ ([] : List Addr) from z) (by simp)) (by simp)
        | some u =>
          rcases hO b with z | ⟨ob, xs, z⟩
          · rw [q] at z; cases z
          · have z2 := un.frzs b ob _ z
            obtain ⟨e1, _⟩ := hok b _ z
            obtain ⟨e2, _⟩ := hok' b _ z2
            rw [e] at e1; cases e1
            exact e2
  cases hk : K.lookup a with
  | some o =>
    have e := KX a o hk
    rw [ha] at e
    cases e
    refine core (fun _ => none) (fun _ => .inl rfl) (.inr ⟨_, vs.toArray, _, hk, rfl, rfl, rfl, by rw [List.size_toArray, lenV]; exact hl, by simpa using rv⟩) (fun b u z => by have z' : (none : Option HO) = some u := z; cases z') (fun b z => absurd rfl z) fun z => absurd rfl z
  | none =>
    refine core (fun b => if b = a then some (.frz { cls := .type "list", data := .seq vs.toArray } (.lst (ns.map V.int))) else none) (fun b => ?_) (.inl (.inr ⟨{ cls := .type "list", data := .seq vs.toArray }, if_pos rfl⟩)) (fun b u z => ?_) (fun b z => ?_) fun _ => hk
    · by_cases hb : b = a
      · exact .inr ⟨_, _, if_pos hb⟩
      · exact .inl (if_neg hb)
    · by_cases hb : b = a
      · have z' := (if_pos hb).symm.trans z
        cases z'
        subst hb
        exact ⟨ha, by rw [List.length_map]; exact hl, vs, _, rv, ha⟩
      · have z' := (if_neg hb).symm.trans z
        cases z'
    · by_cases hb : b = a
      · exact hb
      · exact absurd (if_neg hb) z
end L2
namespace L2
open PySem PySem.Spec PyProof.Rows
theorem zy5 {l : PySem.W.OpenLaw} {n k : Nat} {q : Program} {loose : List Str} {XP : (Str -> Option Value) -> Heap -> Prop} {YP : World -> Heap -> Prop} {d : DefRec} {K : Params -> PySem.W.Frag} {CX : World -> CXT} {sp : World -> Sp} {x : Str}
    (hn : l.most = some n) (hn2 : n ≤ sizeLine) (hdf : d.params.defaults = []) (hr : zbe k callerA)
    (hY : ∀ (w : World) (h : Heap), YP w h -> (K w.params).In h)
    (F : ∀ (w : World) (mg : Str -> Option Value) (fa : Addr) (h : Heap), (K w.params).In h -> h.Ns mainGlobals mg -> mg d.name = some (.ref fa) ->
      ∃ fd : FuncData, (∀ (s : Shared) (u : Value), BindsTo s fd ⟨[u], []⟩ [(x, u)]) /\
        ∀ base : Heap, (K w.params).In base -> base.Ns mainGlobals mg -> zh7 l.prog w (K w.params) mg base (CX w) k fa fd [x] (sp w))
    (hsp : ∀ (w : World) (H : Hp) (a : Addr) (ns : List Int), ns.length ≤ n -> Only H -> SqL (K w.params) H a (ns.map V.int) -> sp w [.ref a] H (fun v _ => v = .bl true) fun _ _ _ => False)
    (hCX : ∀ (w : World) (H : Hp) (s : Shared) (e : Value) (s' : Shared), CX w [] H s (fun _ _ _ => False) e s' -> False) :
    PySem.W.WalkO q loose XP YP l.row.toRowW d [] (fun f vs => PySem.call f vs) := by
  refine Att.attach_call hn hdf fun w s₀ s₁ mg mb fa o pm cd doc a vs ns G Y ho hd hcd hmg hobj hints hlen hg => ?_
  have KX := hY w _ Y
  obtain ⟨fd, hb, hF⟩ := F w mg fa _ KX G.T.g hmg
  exact zx3 KX G.T.g G.T.b G.T.builtins G.T.nolimit hg hobj hints (Nat.le_trans hlen hn2) hr hF hb (fun H hO hS => hsp w H a ns hlen hO hS) fun H e s' => hCX w H s₁ e s'
theorem zws {l : PySem.W.OpenLaw} {n k : Nat} {q : Program} {loose : List Str} {XP : (Str -> Option Value) -> Heap -> Prop} {YP : World -> Heap -> Prop} {d : DefRec} {K : Params -> PySem.W.Frag} {CX : CXT} {sp : PySem.W.Frag -> Sp} {x : Str}
    (hn : l.most = some n) (hn2 : n ≤ sizeLine) (hdf : d.params.defaults = []) (hr : zbe k callerA)
    (hY : ∀ (w : World) (h : Heap), YP w h -> (K w.params).In h)
    (F : ∀ (w : World) (mg : Str -> Option Value) (fa : Addr) (h : Heap), (K w.params).In h -> h.Ns mainGlobals mg -> mg d.name = some (.ref fa) ->
      ∃ fd : FuncData, (∀ (s : Shared) (u : Value), BindsTo s fd ⟨[u], []⟩ [(x, u)]) /\
        ∀ base : Heap, (K w.params).In base -> base.Ns mainGlobals mg -> zh7 l.prog w (K w.params) mg base CX k fa fd [x] (sp (K w.params)))
    (hsp : ∀ (K : PySem.W.Frag) (H : Hp) (a : Addr) (ns : List Int), ns.length ≤ n -> Only H -> SqL K H a (ns.map V.int) -> sp K [.ref a] H (fun v _ => v = .bl true) fun _ _ _ => False)
    (hCX : ∀ (H : Hp) (s : Shared) (e : Value) (s' : Shared), CX [] H s (fun _ _ _ => False) e s' -> False) :
    PySem.W.WalkO q loose XP YP l.row.toRowW d [] (fun f vs => PySem.call f vs) :=
  zy5 (K := K) (CX := fun _ => CX) (sp := fun w => sp (K w.params)) hn hn2 hdf hr hY F (fun w H a ns h1 h2 h3 => hsp (K w.params) H a ns h1 h2 h3) fun _ H s e s' => hCX H s e s'
end L2
namespace L2
open PySem PySem.Spec PyProof.Rows
def zij (s : Stmt) : Arguments := match s with
  | .FunctionDef _ a _ _ _ _ _ _ _ _ => a
  | _ => { posonlyargs := [], args := [], vararg := none, kwonlyargs := [], kw_defaults := [], kwarg := none, defaults := [] }
def zaz (s : Stmt) : List Stmt := match s with
  | .FunctionDef _ _ b _ _ _ _ _ _ _ => b
  | _ => []
def zaf (s : Stmt) : Scope := match s with
  | .FunctionDef _ _ _ _ _ _ sc _ _ _ => sc
  | _ => { kind := .function, names := [], isGenerator := false, isCoroutine := false }
abbrev CX0 : CXT := fun _ _ _ _ _ _ => False
abbrev E0 : XK := fun _ _ _ => False
theorem pass0 {X : Cx} : Passes CX0 X E0 := fun _ _ _ _ _ _ _ h => h.elim
structure Fun (K : PySem.W.Frag) (x qual : Str) (st : Stmt) (f : Addr) (fd : FuncData) : Prop where
  ex : ∃ (oc : Value) (od : Option Addr) (kV doc pm : Value) (an : Option Addr) (cdv ct : Value) (osl : Array (Option Value)),
    fd = PySem.W.fnOf x qual (zij st) (zaz st) (zaf st) .none kV doc pm an cdv ct /\ K.lookup f = some ⟨oc, od, .func fd, osl⟩ /\ PySem.W.codeIn K cdv qual = true
  kp : PySem.W.keepIn K (.ref f) = true
section
variable {P : Program} {w : World} {K : PySem.W.Frag} {mg : Str -> Option Value} {base : Heap}
theorem Fun.ok {x qual : Str} {st : Stmt} {f : Addr} {fd : FuncData} {N ps : List Str} {k : Nat} {sp : Sp} (F : Fun K x qual st f fd) (S : za3 N ps (zaf st)) (len : ∀ vs H Q E, sp vs H Q E -> vs.length = ps.length)
    (hbody : ∀ (cdv : Value) (A : Around) (outer : List Env) (s : Shared) (H : Hp) (vs : List V) (Q : VK) (E : XK), zbe k (A.deeper (envOfC qual (zaf st) s.heap.objs.size f cdv)) -> sp vs H Q E ->
      ∃ t, PSs (zbu CX0 P w K mg base N qual (zaf st) f cdv A outer s H E).nox (zaz st) t /\ t { nx := fun _ H' => Q .non H', rt := Q } (start N vs) H) : zh7 P w K mg base CX0 (k + 1) f fd ps sp := by
  obtain ⟨oc, od, kV, doc, pm, an, cdv, ct, osl, rfl, lk, hcd⟩ := F.ex
  refine fn_of lk hcd S len fun A outer s H vs Q E hr hsp => ?_
  obtain ⟨t, h, q⟩ := hbody cdv A outer s H vs Q E hr hsp
  exact ⟨t, h.nox, q⟩
theorem Fun.binds {x qual : Str} {st : Stmt} {f : Addr} {fd : FuncData} {ps : List Str} (F : Fun K x qual st f fd)
    (h : ∀ (kV doc pm : Value) (an : Option Addr) (cdv ct : Value) (us : List Value), us.length = ps.length -> bindArgs (PySem.W.fnOf x qual (zij st) (zaz st) (zaf st) .none kV doc pm an cdv ct) ⟨us, []⟩ = pure (ps.zip us)) : Binds K fd ps [] := by
  obtain ⟨oc, od, kV, doc, pm, an, cdv, ct, osl, rfl, lk, hcd⟩ := F.ex
  exact .all (h kV doc pm an cdv ct)
theorem fun_mk {x qual : Str} {st : Stmt} {f : Addr} {oc : Value} {od an : Option Addr} {osl : Array (Option Value)} {kV doc pm cdv ct : Value} (l : K.lookup f = some ⟨oc, od, .func (PySem.W.fnOf x qual (zij st) (zaz st) (zaf st) .none kV doc pm an cdv ct), osl⟩)
    (c : PySem.W.codeIn K cdv qual = true) (k : PySem.W.keepIn K (.ref f) = true) : Fun K x qual st f (PySem.W.fnOf x qual (zij st) (zaz st) (zaf st) .none kV doc pm an cdv ct) := ⟨⟨oc, od, kV, doc, pm, an, cdv, ct, osl, rfl, l, c⟩, k⟩
end
section
variable {X : Cx}
theorem pv (i : Nat) {x : Str} {pos : Pos} (hN : X.N[i]? = some x := by rfl) (hv : Vis X.env.scope x := by first | exact Or.inl rfl | exact Or.inr (Or.inl rfl) | exact Or.inr (Or.inr rfl)) (hd : (x == ("__debug__" : Str)) = false := by decide)
    (hcd : (x == ("__classdict__" : Str)) = false := by decide) : PE X (.Name x pos) (tVar i) := zqe hN hv hd hcd
end
def zjk (H H' : Hp) : Prop := ∀ b o, H b = some o -> H' b = some o
theorem zjk.refl (H : Hp) : zjk H H := fun _ _ h => h
theorem zjk.trans {H H1 H2 : Hp} (a : zjk H H1) (b : zjk H1 H2) : zjk H H2 := fun c o h => b c o (a c o h)
theorem zjk.free {H H' : Hp} (e : zjk H H') {l : Addr} (h : H' l = Option.none) : H l = Option.none := by
  cases q : H l with
  | none => rfl
  | some o =>
    rw [e l o q] at h
    cases h
theorem zjk.seq {K : PySem.W.Frag} {H H' : Hp} {a : Addr} {xs : List V} (e : zjk H H') (h : SqL K H a xs) : SqL K H' a xs := by
  rcases h with (h | ⟨o, h⟩) | h
  · exact .inl (.inl (e _ _ h))
  · exact .inl (.inr ⟨o, e _ _ h⟩)
  · exact .inr h
end L2
namespace LD
open PySem
inductive D where
  | non | bl (b : Bool) | int (i : Int) | str (x : Str) | tup (ds : List D) | lst (ds : List D) | frz (ds : List D) | cell (k : Nat) | fn (f : Nat)
  deriving Inhabited
abbrev Mem := List (List D)
abbrev Env := List (Option D)
inductive Res (α : Type) where
  | ok (a : α) (M : Mem)
  | err (c : Str) (d : D) (M : Mem)
  | bad
def Res.bind {α β : Type} (r : Res α) (f : α -> Mem -> Res β) : Res β := match r with
  | .ok a M => f a M
  | .err c d M => .err c d M
  | .bad => .bad
@[simp] theorem Res.bind_ok {α β : Type} (a : α) (M : Mem) (f : α -> Mem -> Res β) : (Res.ok a M).bind f = f a M := rfl
@[simp] theorem Res.bind_err {α β : Type} (c : Str) (d : D) (M : Mem) (f : α -> Mem -> Res β) : (Res.err c d M : Res α).bind f = .err c d M := rfl
@[simp] theorem Res.bind_bad {α β : Type} (f : α -> Mem -> Res β) : (Res.bad : Res α).bind f = .bad := rfl
inductive Bin where
  | add | sub | mul | fdiv | mod | pow
  deriving DecidableEq
inductive Cmp where
  | eq | ne | lt | le | gt | ge | isN | notN | isin | notin
  deriving DecidableEq
inductive Ty where
  | int | bool | str | tuple | list | own (c : Str)
  deriving DecidableEq
inductive Blt where
  | len | tuple | list (m : Bool) | listR (m : Bool) | all | sum | repr
  deriving DecidableEq
inductive Tgt where
  | one (i : Nat)
  | tup (l : List Nat)
def sz : Nat := 16777216
def zbn (m : Bool) (ds : List D) (M : Mem) : Res D := if ds.length ≤ sz then (if m then .ok (.cell M.length) (M ++ [ds]) else .ok (.lst ds) M) else .bad
def zj4 (ds : List D) (M : Mem) : Res D := if ds.length ≤ sz then .ok (.tup ds) M else .bad
def zcm (M : Mem) : D -> Option (List D)
  | .lst ds => some ds
  | .tup ds => some ds
  | .frz ds => some ds
  | .cell k => M[k]?
  | _ => none
def rdD (M : Mem) : D -> Option (List D)
  | .lst ds => some ds
  | .frz ds => some ds
  | .cell k => M[k]?
  | _ => none
def zh3 (M : Mem) : D -> Option (List D)
  | .lst ds => some ds
  | .cell k => M[k]?
  | _ => none
def zat : Nat -> D -> Bool
  | _, .non => true
  | _, .bl _ => true
  | _, .int _ => true
  | _, .str x => x.cps.all (· < 0x110000)
  | n + 1, .tup ds => ds.all (zat n)
  | n + 1, .lst ds => ds.all (zat n)
  | 0, .tup _ => false
  | 0, .lst _ => false
  | _, .frz _ => false
  | _, .cell _ => false
  | _, .fn _ => false
mutual
def zb1 : D -> D -> Bool
  | .non, .non => true
  | .bl a, .bl b => a == b
  | .bl a, .int b => (if a then 1 else 0) == b
  | .int a, .bl b => a == (if b then 1 else 0)
  | .int a, .int b => a == b
  | .str a, .str b => a == b
  | .tup a, .tup b => zh5 a b
  | .lst a, .lst b => zh5 a b
  | _, _ => false
def zh5 : List D -> List D -> Bool
  | [], [] => true
  | a :: r, b :: t => zb1 a b && zh5 r t
  | [], _ :: _ => false
  | _ :: _, [] => false
end
def eqD (a b : D) : Option Bool := if zat 64 a && zat 64 b then some (zb1 a b) else none
def view (M : Mem) : D -> D
  | .cell k => match M[k]? with
    | some ds => .lst ds
    | none => .cell k
  | .frz ds => .lst ds
  | d => d
def zek : Nat -> Mem -> D -> D
  | 0, _, d => d
  | n + 1, M, .cell k => match M[k]? with
    | some ds => .lst (ds.map (zek n M))
    | none => .cell k
  | n + 1, M, .frz ds => .lst (ds.map (zek n M))
  | n + 1, M, .lst ds => .lst (ds.map (zek n M))
  | n + 1, M, .tup ds => .tup (ds.map (zek n M))
  | _ + 1, _, d => d
def eqM (M : Mem) (a b : D) : Option Bool := match eqD (view M a) (view M b) with
  | some r => some r
  | none => eqD (zek 64 M a) (zek 64 M b)
def zjh (M : Mem) : D -> Option Bool
  | .non => some false
  | .bl b => some b
  | .int i => some (i != 0)
  | .str x => if x.cps.size ≤ sz then some (x.cps.size != 0) else none
  | .tup ds => some (!ds.isEmpty)
  | .lst ds => some (!ds.isEmpty)
  | .frz ds => some (!ds.isEmpty)
  | .cell k => (M[k]?).map fun ds => !ds.isEmpty
  | .fn _ => none
def ixN (n : Nat) (i : Int) : Option Nat := if 0 ≤ i then (if i < n then some i.toNat else none) else if -(n : Int) ≤ i then some (i + n).toNat else none
def zey (m : Bool) (o : Bin) (a b : D) (M : Mem) : Res D := match o, a, b with
  | .add, .int i, .int j => .ok (.int (i + j)) M
  | .add, .str x, .str y => if x.cps.size + y.cps.size ≤ sz then .ok (.str ⟨x.cps ++ y.cps⟩) M else .bad
  | .add, .tup x, .tup y => zj4 (x ++ y) M
  | .add, a, b => match zh3 M a, zh3 M b with
    | some x, some y => zbn m (x ++ y) M
    | _, _ => .bad
  | .sub, .int i, .int j => .ok (.int (i - j)) M
  | .mul, .int i, .int j => if (-(2 ^ 64) < i /\ i < 2 ^ 64) \/ (-(2 ^ 64) < j /\ j < 2 ^ 64) then .ok (.int (i * j)) M else .bad
  | .mul, .tup x, .int j => if x.length * j.toNat ≤ sz /\ -(2 ^ 63) ≤ j /\ j < 2 ^ 63 then .ok (.tup (List.replicate j.toNat x).flatten) M else .bad
  | .mul, a, .int j => match zh3 M a with
    | some x => if x.length * j.toNat ≤ sz /\ -(2 ^ 63) ≤ j /\ j < 2 ^ 63 then zbn m (List.replicate j.toNat x).flatten M else .bad
    | none => .bad
  | .fdiv, .int i, .int j => if 0 < j /\ j < 1073741824 then .ok (.int (i / j)) M else .bad
  | .mod, .int i, .int j => if 0 < j then .ok (.int (i % j)) M else .bad
  | .pow, .int i, .int j => if 0 ≤ j /\ j ≤ 1000000 /\ i.natAbs < 2 ^ 64 then .ok (.int (i ^ j.toNat)) M else .bad
  | _, _, _ => .bad
def inL (x : D) (ds : List D) : Option Bool := if zat 64 x && ds.all (zat 63) then some (ds.any fun y => zb1 y x) else none
def zmc (x y : Str) : Bool := !(Builtin.Str.occurrences y x 0 y.length 1).isEmpty
def zj5 : D -> Bool
  | .non => true
  | _ => false
def zb2 (o : Cmp) (a b : D) (M : Mem) : Option Bool := match o, a, b with
  | .eq, a, b => eqM M a b
  | .ne, a, b => (eqM M a b).map (!·)
  | .lt, .int i, .int j => some (decide (i < j))
  | .le, .int i, .int j => some (decide (i ≤ j))
  | .gt, .int i, .int j => some (decide (j < i))
  | .ge, .int i, .int j => some (decide (j ≤ i))
  | .isN, a, .non => some (zj5 a)
  | .notN, a, .non => some (!zj5 a)
  | .isin, .str x, .str y => some (zmc x y)
  | .notin, .str x, .str y => some (!zmc x y)
  | .isin, a, b => (zcm M b).bind (inL (view M a))
  | .notin, a, b => ((zcm M b).bind (inL (view M a))).map (!·)
  | _, _, _ => none
def zcp (a i : D) (M : Mem) : Option D := match a, i with
  | .str x, .int i => if x.cps.size ≤ sz then (ixN x.cps.size i).bind fun j => (x.cps[j]?).map fun c => .str ⟨#[c]⟩ else none
  | a, .int i => (zcm M a).bind fun ds => (ixN ds.length i).bind fun j => ds[j]?
  | _, _ => none
def sIx (n d : Nat) : D -> Option Nat
  | .non => some d
  | .int v => some (if v < 0 then (v + (n : Int)).toNat else min v.toNat n)
  | _ => none
def zcv : Bool -> D -> Bool
  | true, .int _ => true
  | false, .non => true
  | _, _ => false
def cut {α : Type} (xs : List α) (lo hi : Nat) : List α := (xs.drop lo).take (hi - lo)
def zb7 (m : Bool) (a lo hi : D) (M : Mem) : Res D := match a with
  | .tup xs => match sIx xs.length 0 lo, sIx xs.length xs.length hi with
    | some l, some h => .ok (.tup (cut xs l h)) M
    | _, _ => .bad
  | a => match rdD M a with
    | some xs => match sIx xs.length 0 lo, sIx xs.length xs.length hi with
      | some l, some h => zbn m (cut xs l h) M
      | _, _ => .bad
    | none => .bad
def zfk (t : Ty) : D -> Option Bool
  | .non => some false
  | .bl _ => some (t == .bool || t == .int)
  | .int _ => some (t == .int)
  | .str _ => some (t == .str)
  | .tup _ => some (t == .tuple)
  | .lst _ => some (t == .list)
  | .frz _ => some (t == .list)
  | .cell _ => some (t == .list)
  | .fn _ => none
def boolsOf : List D -> Option (List Bool)
  | [] => some []
  | .bl b :: r => (boolsOf r).map (b :: ·)
  | _ => none
def intsOf : List D -> Option (List Int)
  | [] => some []
  | .int b :: r => (intsOf r).map (b :: ·)
  | _ => none
def zex (f : Blt) (ds : List D) (M : Mem) : Res D := match f, ds with
  | .len, [.str x] => if x.cps.size ≤ sz then .ok (.int x.cps.size) M else .bad
  | .len, [d] => match zcm M d with
    | some xs => .ok (.int xs.length) M
    | none => .bad
  | .tuple, [.tup xs] => .ok (.tup xs) M
  | .tuple, [d] => match rdD M d with
    | some xs => .ok (.tup xs) M
    | none => .bad
  | .list m, [d] => match zcm M d with
    | some xs => zbn m xs M
    | none => .bad
  | .listR m, [.int n] => if n < 2 ^ 20 then zbn m ((List.range n.toNat).map fun (k : Nat) => D.int (k : Int)) M else .bad
  | .all, [d] => match rdD M d with
    | some xs => match boolsOf xs with
      | some bs => .ok (.bl (bs.all id)) M
      | none => .bad
    | none => .bad
  | .sum, [d] => match rdD M d with
    | some xs => match intsOf xs with
      | some is => .ok (.int is.sum) M
      | none => .bad
    | none => .bad
  | _, _ => .bad
def zct : List Nat -> List D -> Env -> Option Env
  | [], [], ρ => some ρ
  | i :: l, d :: ds, ρ => zct l ds (ρ.set i (some d))
  | _, _, _ => none
def zc1 (t : Tgt) (d : D) (ρ : Env) : Option Env := match t, d with
  | .one i, d => some (ρ.set i (some d))
  | .tup l, .tup ds => zct l ds ρ
  | .tup _, _ => none
abbrev Walk := Mem -> Option (List D)
def zdw : Nat -> List D -> List D
  | _, [] => []
  | k, d :: r => .tup [.int k, d] :: zdw (k + 1) r
def zlm : List D -> List D -> List D
  | a :: r, b :: t => .tup [a, b] :: zlm r t
  | _, _ => []
def zf7 : List D -> List D -> List D -> List D
  | a :: r, b :: t, c :: q => .tup [a, b, c] :: zf7 r t q
  | _, _, _ => []
def eachR {α : Type} (f : α -> D -> Mem -> Res α) : List D -> α -> Mem -> Res α
  | [], a, M => .ok a M
  | d :: r, a, M => (f a d M).bind (eachR f r)
def zfj {α : Type} (f : α -> D -> Mem -> Res α) (w : Walk) : Nat -> Nat -> α -> Mem -> Res α
  | 0, _, _, _ => .bad
  | n + 1, i, a, M => match w M with
    | none => .bad
    | some ds => match ds[i]? with
      | none => .ok a M
      | some d => (f a d M).bind (zfj f w n (i + 1))
def zdu {α : Type} (f : α -> D -> Mem -> Res α) (w : Walk) (a : α) (M : Mem) : Res α := zfj f w (((w M).getD []).length + 1) 0 a M
def ofO {α : Type} (M : Mem) : Option α -> Res α
  | some a => .ok a M
  | none => .bad
@[simp] theorem zxt {α : Type} (M : Mem) (a : α) : ofO M (some a) = .ok a M := rfl
@[simp] theorem ofO_none {α : Type} (M : Mem) : (ofO M none : Res α) = .bad := rfl
inductive Fl where
  | next (ρ : Env)
  | ret (d : D)
end LD
namespace LD
open PySem PySem.Spec PyProof.Rows L2
structure Mu where
  pub : Nat -> Option Addr
  priv : List Addr
def Mu.Mt (μ : Mu) (a : Addr) : Prop := (∃ k, μ.pub k = some a) \/ a ∈ μ.priv
abbrev Fa := Nat -> Option Addr
def KL (K : PySem.W.Frag) (a : Addr) (xs : List V) : Prop :=
  ∃ (o : Obj) (its : Array Value) (n : Nat), K.lookup a = some o /\ o.cls = .type "list" /\ o.dict = none /\ o.data = .seq its n /\ its.size ≤ sizeLine /\ Vals xs its.toList
section
variable (fa : Fa) (K : PySem.W.Frag) (μ : Mu) (H : Hp)
mutual
def Rep : D -> V -> Prop
  | .non, v => v = .non
  | .bl b, v => v = .bl b
  | .int i, v => v = .int i
  | .str x, v => v = .str x
  | .tup ds, v => ∃ a vs, v = .ref a /\ SqT K H a vs /\ za6 ds vs
  | .lst ds, v => ∃ a vs, v = .ref a /\ (H a = some (.lst vs) /\ ¬ μ.Mt a) /\ za6 ds vs
  | .frz ds, v => ∃ a vs, v = .ref a /\ ((∃ ob, H a = some (.frz ob (.lst vs))) \/ KL K a vs) /\ za6 ds vs
  | .cell k, v => ∃ a, v = .ref a /\ μ.pub k = some a
  | .fn f, v => ∃ a, v = .ref a /\ fa f = some a
def za6 : List D -> List V -> Prop
  | [], vs => vs = []
  | d :: ds, vs => ∃ v r, vs = v :: r /\ Rep d v /\ za6 ds r
end
end
structure ExtW (μ : Mu) (H : Hp) (μ' : Mu) (H' : Hp) : Prop where
  mu : ∀ k a, μ.pub k = some a -> μ'.pub k = some a
  tups : ∀ a vs, Rd H a (.tup vs) -> Rd H' a (.tup vs)
  lsts : ∀ a vs, H a = some (.lst vs) -> ¬ μ.Mt a -> H' a = some (.lst vs) /\ ¬ μ'.Mt a
  frzs : ∀ a ob u, H a = some (.frz ob u) -> H' a = some (.frz ob u)
structure Ext (μ : Mu) (H : Hp) (μ' : Mu) (H' : Hp) : Prop extends ExtW μ H μ' H' where
  pr : μ'.priv = μ.priv
  pk : ∀ a ∈ μ.priv, H' a = H a
theorem ExtW.refl {μ : Mu} {H : Hp} : ExtW μ H μ H := ⟨fun _ _ h => h, fun _ _ h => h, fun _ _ h n => ⟨h, n⟩, fun _ _ _ h => h⟩
theorem ExtW.trans {μ μ1 μ2 : Mu} {H H1 H2 : Hp} (a : ExtW μ H μ1 H1) (b : ExtW μ1 H1 μ2 H2) : ExtW μ H μ2 H2 :=
  ⟨fun k x h => b.mu k x (a.mu k x h), fun x vs h => b.tups x vs (a.tups x vs h), fun x vs h n => b.lsts x vs (a.lsts x vs h n).1 (a.lsts x vs h n).2, fun x ob u h => b.frzs x ob u (a.frzs x ob u h)⟩
theorem Ext.refl {μ : Mu} {H : Hp} : Ext μ H μ H := ⟨.refl, rfl, fun _ _ => rfl⟩
theorem Ext.trans {μ μ1 μ2 : Mu} {H H1 H2 : Hp} (a : Ext μ H μ1 H1) (b : Ext μ1 H1 μ2 H2) : Ext μ H μ2 H2 :=
  ⟨a.toExtW.trans b.toExtW, b.pr.trans a.pr, fun x hx => (b.pk x (by rw [a.pr]; exact hx)).trans (a.pk x hx)⟩
section
variable {fa : Fa} {K : PySem.W.Frag} {μ μ' : Mu} {H H' : Hp}
theorem ExtW.sqT {a : Addr} {vs : List V} (x : ExtW μ H μ' H') (h : SqT K H a vs) : SqT K H' a vs := h.elim (fun z => .inl (x.tups a vs z)) .inr
mutual
theorem Rep.extW (x : ExtW μ H μ' H') : ∀ {d : D} {v : V}, Rep fa K μ H d v -> Rep fa K μ' H' d v
  | .non, v, h => h
  | .bl b, v, h => h
  | .int i, v, h => h
  | .str y, v, h => h
  | .tup ds, v, h => by
    obtain ⟨a, vs, e, s, r⟩ := h
    exact ⟨a, vs, e, x.sqT s, za6.extW x r⟩
  | .lst ds, v, h => by
    obtain ⟨a, vs, e, s, r⟩ := h
    exact ⟨a, vs, e, x.lsts a vs s.1 s.2, za6.extW x r⟩
  | .frz ds, v, h => by
    obtain ⟨a, vs, e, s, r⟩ := h
    exact ⟨a, vs, e, s.elim (fun ⟨ob, z⟩ => .inl ⟨ob, x.frzs a ob _ z⟩) .inr, za6.extW x r⟩
  | .cell k, v, h => by
    obtain ⟨a, e, m⟩ := h
    exact ⟨a, e, x.mu k a m⟩
  | .fn f, v, h => h
theorem za6.extW (x : ExtW μ H μ' H') : ∀ {ds : List D} {vs : List V}, za6 fa K μ H ds vs -> za6 fa K μ' H' ds vs
  | [], vs, h => h
  | d :: ds, vs, h => by
    obtain ⟨v, r, e, p, q⟩ := h
    exact ⟨v, r, e, Rep.extW x p, za6.extW x q⟩
end
theorem Rep.ext (x : Ext μ H μ' H') {d : D} {v : V} (h : Rep fa K μ H d v) : Rep fa K μ' H' d v := Rep.extW x.toExtW h
theorem za6.ext (x : Ext μ H μ' H') {d : List D} {v : List V} (h : za6 fa K μ H d v) : za6 fa K μ' H' d v := za6.extW x.toExtW h
theorem za6.length : ∀ {ds : List D} {vs : List V}, za6 fa K μ H ds vs -> vs.length = ds.length
  | [], vs, h => by
    have h : vs = [] := h
    subst h; rfl
  | d :: ds, vs, h => by
    obtain ⟨v, r, e, p, q⟩ := h
    subst e
    simp [za6.length q]
theorem za6.get : ∀ {ds : List D} {vs : List V} {i : Nat} {d : D}, za6 fa K μ H ds vs -> ds[i]? = some d -> ∃ v, vs[i]? = some v /\ Rep fa K μ H d v
  | [], _, _, _, _, e => by simp at e
  | d :: ds, vs, 0, d', h, e => by
    obtain ⟨v, r, rfl, p, q⟩ := h
    simp at e; subst e
    exact ⟨v, rfl, p⟩
  | d :: ds, vs, i + 1, d', h, e => by
    obtain ⟨v, r, rfl, p, q⟩ := h
    obtain ⟨u, h1, h2⟩ := za6.get (i := i) q (by simpa using e)
    exact ⟨u, by simpa using h1, h2⟩
theorem za6.append : ∀ {ds es : List D} {vs ws : List V}, za6 fa K μ H ds vs -> za6 fa K μ H es ws -> za6 fa K μ H (ds ++ es) (vs ++ ws)
  | [], _, vs, _, h, g => by
    have h : vs = [] := h
    subst h; exact g
  | d :: ds, es, vs, ws, h, g => by
    obtain ⟨v, r, rfl, p, q⟩ := h
    exact ⟨v, r ++ ws, rfl, p, za6.append q g⟩
theorem za6.one {d : D} {v : V} (h : Rep fa K μ H d v) : za6 fa K μ H [d] [v] := ⟨v, [], rfl, h, rfl⟩
theorem za6.drop : ∀ (n : Nat) {ds : List D} {vs : List V}, za6 fa K μ H ds vs -> za6 fa K μ H (ds.drop n) (vs.drop n)
  | 0, _, _, h => h
  | n + 1, [], vs, h => by
    have h : vs = [] := h
    subst h; exact rfl
  | n + 1, d :: ds, vs, h => by
    obtain ⟨v, r, rfl, p, q⟩ := h
    exact za6.drop n q
theorem za6.take : ∀ (n : Nat) {ds : List D} {vs : List V}, za6 fa K μ H ds vs -> za6 fa K μ H (ds.take n) (vs.take n)
  | 0, _, _, h => rfl
  | n + 1, [], vs, h => by
    have h : vs = [] := h
    subst h; exact rfl
  | n + 1, d :: ds, vs, h => by
    obtain ⟨v, r, rfl, p, q⟩ := h
    exact ⟨v, r.take n, rfl, p, za6.take n q⟩
theorem za6.set : ∀ (n : Nat) {ds : List D} {vs : List V} {d : D} {v : V}, za6 fa K μ H ds vs -> Rep fa K μ H d v -> za6 fa K μ H (ds.set n d) (vs.set n v)
  | _, [], vs, _, _, h, _ => by
    have h : vs = [] := h
    subst h; exact rfl
  | 0, d :: ds, vs, _, v', h, g => by
    obtain ⟨v, r, rfl, p, q⟩ := h
    exact ⟨v', r, rfl, g, q⟩
  | n + 1, d :: ds, vs, _, v', h, g => by
    obtain ⟨v, r, rfl, p, q⟩ := h
    exact ⟨v, r.set n v', rfl, p, za6.set n q g⟩
theorem za6.reverse : ∀ {ds : List D} {vs : List V}, za6 fa K μ H ds vs -> za6 fa K μ H ds.reverse vs.reverse
  | [], vs, h => by
    have h : vs = [] := h
    subst h; exact rfl
  | d :: ds, vs, h => by
    obtain ⟨v, r, rfl, p, q⟩ := h
    rw [List.reverse_cons, List.reverse_cons]
    exact za6.append (za6.reverse q) (.one p)
theorem za6.rep : ∀ (n : Nat) {ds : List D} {vs : List V}, za6 fa K μ H ds vs -> za6 fa K μ H (List.replicate n ds).flatten (List.replicate n vs).flatten
  | 0, _, _, _ => rfl
  | n + 1, ds, vs, h => by
    rw [List.replicate_succ, List.replicate_succ, List.flatten_cons, List.flatten_cons]
    exact h.append (za6.rep n h)
theorem za6.ints : ∀ (ns : List Int), za6 fa K μ H (ns.map D.int) (ns.map V.int)
  | [] => rfl
  | n :: ns => ⟨.int n, ns.map V.int, rfl, rfl, za6.ints ns⟩
end
structure RelM (fa : Fa) (K : PySem.W.Frag) (μ : Mu) (H : Hp) (M : Mem) : Prop where
  at' : ∀ (k : Nat) (ds : List D), M[k]? = some ds -> ∃ a vs, μ.pub k = some a /\ H a = some (.lst vs) /\ za6 fa K μ H ds vs
  out : ∀ (k : Nat), M.length ≤ k -> μ.pub k = none
  inj : ∀ j k a, μ.pub j = some a -> μ.pub k = some a -> j = k
  pv : ∀ a ∈ μ.priv, (∃ vs, H a = some (.lst vs)) /\ ∀ k, μ.pub k ≠ some a
structure zbv (fa : Fa) (K : PySem.W.Frag) (μ : Mu) (H : Hp) (σ : L2.St) (ρ : Env) : Prop where
  len : σ.length = ρ.length
  at' : ∀ (i : Nat) (d : D), ρ[i]? = some (some d) -> ∃ v, σ[i]? = some (some v) /\ Rep fa K μ H d v
section
variable {fa : Fa} {K : PySem.W.Frag} {μ μ' : Mu} {H H' : Hp} {σ : L2.St} {ρ : Env} {M : Mem}
theorem zbv.ext (h : zbv fa K μ H σ ρ) (x : Ext μ H μ' H') : zbv fa K μ' H' σ ρ :=
  ⟨h.len, fun i d e => let ⟨v, h1, h2⟩ := h.at' i d e; ⟨v, h1, h2.ext x⟩⟩
theorem zbv.set (h : zbv fa K μ H σ ρ) {i : Nat} {d : D} {v : V} (r : Rep fa K μ H d v) : zbv fa K μ H (σ.set i (some v)) (ρ.set i (some d)) := by
  refine ⟨by simp [h.len], fun j d' e => ?_⟩
  by_cases hj : j = i
  · subst hj
    have hl : j < ρ.length := by
      have := (List.getElem?_eq_some_iff.mp e).1
      simpa using this
    rw [List.getElem?_set_self hl] at e
    cases e
    exact ⟨v, List.getElem?_set_self (by rw [h.len]; exact hl), r⟩
  · rw [List.getElem?_set_ne (Ne.symm hj)] at e
    obtain ⟨u, h1, h2⟩ := h.at' j d' e
    exact ⟨u, by rw [List.getElem?_set_ne (Ne.symm hj)]; exact h1, h2⟩
theorem zbv.extW (h : zbv fa K μ H σ ρ) (x : ExtW μ H μ' H') : zbv fa K μ' H' σ ρ :=
  ⟨h.len, fun i d e => let ⟨v, h1, h2⟩ := h.at' i d e; ⟨v, h1, h2.extW x⟩⟩
theorem RelM.mu_lt (h : RelM fa K μ H M) {k : Nat} {a : Addr} (e : μ.pub k = some a) : ∃ ds vs, M[k]? = some ds /\ H a = some (.lst vs) /\ za6 fa K μ H ds vs := by
  by_cases hk : k < M.length
  · obtain ⟨a', vs, h1, h2, h3⟩ := h.at' k M[k] (by simp [hk])
    rw [e] at h1; cases h1
    exact ⟨_, vs, by simp [hk], h2, h3⟩
  · rw [h.out k (by omega)] at e; cases e
theorem RelM.fresh (h : RelM fa K μ H M) {p : Addr} (hp : H p = none) : ¬ μ.Mt p := fun e => by
  rcases e with ⟨k, e⟩ | e
  · obtain ⟨ds, vs, _, h2, _⟩ := h.mu_lt e
    rw [hp] at h2; cases h2
  · obtain ⟨⟨vs, h2⟩, _⟩ := h.pv p e
    rw [hp] at h2; cases h2
theorem RelM.pne (h : RelM fa K μ H M) {p a : Addr} (hp : H p = none) (ha : a ∈ μ.priv) : a ≠ p := fun e => by
  obtain ⟨⟨vs, h2⟩, _⟩ := h.pv a ha
  rw [e, hp] at h2; cases h2
theorem Ext.alloc {p : Addr} {o : HO} (h : RelM fa K μ H M) (hp : H p = none) : Ext μ H μ (upd H p o) := by
  have rd : ∀ a u, Rd H a u -> Rd (upd H p o) a u := fun a u h => by
    rcases h with h | ⟨ob, h⟩
    · exact .inl (by rw [zbd (zbs h hp)]; exact h)
    · exact .inr ⟨ob, by rw [zbd (zbs h hp)]; exact h⟩
  exact ⟨⟨fun _ _ h => h, fun a vs h => rd a _ h, fun a vs h n => ⟨by rw [zbd (zbs h hp)]; exact h, n⟩, fun a ob u h => by rw [zbd (zbs h hp)]; exact h⟩, rfl, fun a ha => by rw [zbd (h.pne hp ha)]⟩
theorem RelM.alloc (h : RelM fa K μ H M) {p : Addr} {o : HO} (hp : H p = none) : RelM fa K μ (upd H p o) M :=
  ⟨fun k ds e => let ⟨a, vs, h1, h2, h3⟩ := h.at' k ds e; ⟨a, vs, h1, by rw [zbd (zbs h2 hp)]; exact h2, h3.ext (Ext.alloc h hp)⟩, h.out, h.inj, fun a ha => ⟨let ⟨⟨vs, e⟩, _⟩ := h.pv a ha; ⟨vs, by rw [zbd (h.pne hp ha)]; exact e⟩, (h.pv a ha).2⟩⟩
def zgb (μ : Mu) (n : Nat) (p : Addr) : Mu := ⟨fun k => if k = n then some p else μ.pub k, μ.priv⟩
theorem Ext.cell {p : Addr} {o : HO} (h : RelM fa K μ H M) (hp : H p = none) : Ext μ H (zgb μ M.length p) (upd H p o) := by
  have rd : ∀ a u, Rd H a u -> Rd (upd H p o) a u := fun a u h => by
    rcases h with h | ⟨ob, h⟩
    · exact .inl (by rw [zbd (zbs h hp)]; exact h)
    · exact .inr ⟨ob, by rw [zbd (zbs h hp)]; exact h⟩
  refine ⟨⟨fun k a e => ?_, fun a vs g => rd a _ g, fun a vs g n => ⟨by rw [zbd (zbs g hp)]; exact g, fun e => ?_⟩, fun a ob u h => by rw [zbd (zbs h hp)]; exact h⟩, rfl, fun a ha => by rw [zbd (h.pne hp ha)]⟩
  · show (if k = M.length then some p else μ.pub k) = some a
    split
    · next q => rw [q, h.out _ (Nat.le_refl _)] at e; cases e
    · exact e
  · rcases e with ⟨k, e⟩ | e
    · have e : (if k = M.length then some p else μ.pub k) = some a := e
      split at e
      · cases e; exact zbs g hp rfl
      · exact n (.inl ⟨k, e⟩)
    · exact n (.inr e)
theorem RelM.cell (h : RelM fa K μ H M) {p : Addr} {ds : List D} {vs : List V} (hp : H p = none) (r : za6 fa K μ H ds vs) :
    RelM fa K (zgb μ M.length p) (upd H p (.lst vs)) (M ++ [ds]) := by
  have x : Ext μ H (zgb μ M.length p) (upd H p (.lst vs)) := Ext.cell h hp
  have np := h.fresh hp
  refine ⟨fun k ds' e => ?_, fun k hk => ?_, fun j k a h1 h2 => ?_, fun a ha => ?_⟩
  · by_cases hk : k < M.length
    · rw [List.getElem?_append_left hk] at e
      obtain ⟨a, ws, h1, h2, h3⟩ := h.at' k ds' e
      exact ⟨a, ws, x.mu k a h1, by rw [zbd (zbs h2 hp)]; exact h2, h3.ext x⟩
    · have hk' : k = M.length := by
        have := (List.getElem?_eq_some_iff.mp e).1
        simp at this; omega
      subst hk'
      rw [List.getElem?_append_right (Nat.le_refl _)] at e
      simp at e
      subst e
      exact ⟨p, vs, by simp [zgb], zc5, r.ext x⟩
  · simp at hk
    show (if k = M.length then some p else μ.pub k) = none
    rw [if_neg (by omega)]
    exact h.out k (by omega)
  · have h1 : (if j = M.length then some p else μ.pub j) = some a := h1
    have h2 : (if k = M.length then some p else μ.pub k) = some a := h2
    split at h1 <;> split at h2
    · omega
    · cases h1; exact absurd (.inl ⟨k, h2⟩) np
    · cases h2; exact absurd (.inl ⟨j, h1⟩) np
    · exact h.inj j k a h1 h2
  · obtain ⟨⟨ws, e⟩, n⟩ := h.pv a ha
    refine ⟨⟨ws, by rw [zbd (h.pne hp ha)]; exact e⟩, fun k e2 => ?_⟩
    have e2 : (if k = M.length then some p else μ.pub k) = some a := e2
    split at e2
    · cases e2; exact h.pne hp ha rfl
    · exact n k e2
theorem ExtW.write {a : Addr} {vs ws : List V} (h2 : H a = some (.lst vs)) (e : μ.Mt a) : ExtW μ H μ (upd H a (.lst ws)) := by
  have ne : ∀ b u, Rd H b u -> (∀ xs, u ≠ .lst xs) -> b ≠ a := fun b u g nu q => by
    subst q
    rcases g with g | ⟨ob, g⟩
    · rw [h2] at g; cases g; exact nu _ rfl
    · rw [h2] at g; cases g
  have rd : ∀ b u, b ≠ a -> Rd H b u -> Rd (upd H a (.lst ws)) b u := fun b u nb g => by
    rcases g with g | ⟨ob, g⟩
    · exact .inl (by rw [zbd nb]; exact g)
    · exact .inr ⟨ob, by rw [zbd nb]; exact g⟩
  exact ⟨fun _ _ q => q, fun b us g => rd b _ (ne b _ g (fun xs q => by cases q)) g, fun b us g n => ⟨by rw [zbd (fun q => n (by rw [q]; exact e))]; exact g, n⟩, fun b ob u g => by rw [zbd (fun q => by rw [q, h2] at g; cases g)]; exact g⟩
theorem Ext.write {k : Nat} {a : Addr} {vs ws : List V} (h : RelM fa K μ H M) (e : μ.pub k = some a) : Ext μ H μ (upd H a (.lst ws)) := by
  obtain ⟨ds, vs, _, h2, _⟩ := h.mu_lt e
  exact ⟨ExtW.write h2 (.inl ⟨k, e⟩), rfl, fun b hb => by rw [zbd (fun q => (h.pv b hb).2 k (by rw [q]; exact e))]⟩
theorem RelM.write (h : RelM fa K μ H M) {k : Nat} {a : Addr} {ds : List D} {ws : List V} (e : μ.pub k = some a) (r : za6 fa K μ H ds ws) : RelM fa K μ (upd H a (.lst ws)) (M.set k ds) := by
  have x : Ext μ H μ (upd H a (.lst ws)) := Ext.write (vs := ws) h e
  refine ⟨fun j es q => ?_, fun j hj => h.out j (by simpa using hj), h.inj, fun b hb => ⟨let ⟨⟨vs, g⟩, _⟩ := h.pv b hb; ⟨vs, by rw [x.pk b hb]; exact g⟩, (h.pv b hb).2⟩⟩
  by_cases hj : j = k
  · subst hj
    have hl : j < M.length := by have := (List.getElem?_eq_some_iff.mp q).1; simpa using this
    rw [List.getElem?_set_self hl] at q
    cases q
    exact ⟨a, ws, e, zc5, r.ext x⟩
  · rw [List.getElem?_set_ne (Ne.symm hj)] at q
    obtain ⟨b, vs, h1, h2, h3⟩ := h.at' j es q
    have nb : b ≠ a := fun z => hj (h.inj j k a (z ▸ h1) e)
    exact ⟨b, vs, h1, by rw [zbd nb]; exact h2, h3.ext x⟩
end
def okE {α : Type} (r : Res α) (k : α -> Mem -> Prop) : Prop := match r with
  | .ok a M => k a M
  | _ => False
theorem zbl {α β : Type} {r : Res α} {f : α -> Mem -> Res β} {k : β -> Mem -> Prop} (h : okE (r.bind f) k) : ∃ a M, r = .ok a M /\ okE (f a M) k := by
  cases r with
  | ok a M => exact ⟨a, M, rfl, h⟩
  | err => exact h.elim
  | bad => exact h.elim
theorem zk4 {α : Type} {M : Mem} {o : Option α} {k : α -> Mem -> Prop} (h : okE (ofO M o) k) : ∃ a, o = some a /\ k a M := by
  cases o with
  | none => exact h.elim
  | some a => exact ⟨a, rfl, h⟩
theorem za9 {α : Type} {r : Res α} {k k' : α -> Mem -> Prop} (h : okE r k) (m : ∀ a M, k a M -> k' a M) : okE r k' := by
  cases r with
  | ok a M => exact m a M h
  | err => exact h
  | bad => exact h
section
variable (fa : Fa) (K : PySem.W.Frag)
def zbz (μ : Mu) (H : Hp) (Q : VK) (d : D) (M' : Mem) : Prop := ∀ v H' μ', Ext μ H μ' H' -> RelM fa K μ' H' M' -> Rep fa K μ' H' d v -> Q v H'
def tE (g : Env -> Mem -> Res D) : TE := fun σ H Q => ∃ μ ρ M, zbv fa K μ H σ ρ /\ RelM fa K μ H M /\ okE (g ρ M) (zbz fa K μ H Q)
def tT (g : Env -> Mem -> Res Bool) : TT := fun σ H Q => ∃ μ ρ M, zbv fa K μ H σ ρ /\ RelM fa K μ H M /\ okE (g ρ M) fun b M' => ∀ H' μ', Ext μ H μ' H' -> RelM fa K μ' H' M' -> Q b H'
def tA (g : Env -> Mem -> Res (List D)) : TA := fun σ H Q => ∃ μ ρ M, zbv fa K μ H σ ρ /\ RelM fa K μ H M /\ okE (g ρ M) fun ds M' => ∀ vs H' μ', Ext μ H μ' H' -> RelM fa K μ' H' M' -> za6 fa K μ' H' ds vs -> Q vs H'
def tF (g : Env -> Mem -> Res Fl) : TS := fun D σ H => ∃ μ ρ M, zbv fa K μ H σ ρ /\ RelM fa K μ H M /\ okE (g ρ M) fun fl M' => match fl with
  | .next ρ' => ∀ σ' H' μ', Ext μ H μ' H' -> zbv fa K μ' H' σ' ρ' -> RelM fa K μ' H' M' -> D.nx σ' H'
  | .ret d => zbz fa K μ H D.rt d M'
end
section
variable {fa : Fa} {K : PySem.W.Frag} {μ μ' : Mu} {H H' : Hp} {Q : VK}
theorem zbz.ext {d : D} {M : Mem} (h : zbz fa K μ H Q d M) (x : Ext μ H μ' H') : zbz fa K μ' H' Q d M := fun v H'' μ'' y m r => h v H'' μ'' (x.trans y) m r
theorem okW {r : Res D} (h : okE r (zbz fa K μ H Q)) (x : Ext μ H μ' H') : okE r (zbz fa K μ' H' Q) := za9 h fun _ _ w => w.ext x
end
theorem zcu {X : Cx} {e : PySem.Expr} {t t' : TE} (h : PE X e t) (i : ∀ σ H Q, t' σ H Q -> t σ H Q) : PE X e t' := fun pins s σ H Q I q => h pins s σ H Q I (i σ H Q q)
theorem zkr {X : Cx} {e : PySem.Expr} {t t' : TT} (h : PT X e t) (i : ∀ σ H Q, t' σ H Q -> t σ H Q) : PT X e t' := fun pins s σ H Q I q => h pins s σ H Q I (i σ H Q q)
theorem zva {X : Cx} {e : PySem.Expr} {t t' : TT} (h : PW X e t) (i : ∀ σ H Q, t' σ H Q -> t σ H Q) : PW X e t' := fun w pins s σ H Q I q => h w pins s σ H Q I (i σ H Q q)
theorem zvi {X : Cx} {e : List PySem.Expr} {t t' : TA} (h : PA X e t) (i : ∀ σ H Q, t' σ H Q -> t σ H Q) : PA X e t' := fun pos pins s σ H Q I q => h pos pins s σ H Q I (i σ H Q q)
theorem zg2 {X : Cx} {e : PySem.Stmt} {t t' : TS} (h : PS X e t) (i : ∀ D σ H, t' D σ H -> t D σ H) : PS X e t' := fun pins s σ H D I q => h pins s σ H D I (i D σ H q)
theorem zsg {X : Cx} {e : List PySem.Stmt} {t t' : TS} (h : PSs X e t) (i : ∀ D σ H, t' D σ H -> t D σ H) : PSs X e t' := fun pins s σ H D I q => h pins s σ H D I (i D σ H q)
section
variable {fa : Fa} {K : PySem.W.Frag} {μ : Mu} {H : Hp} {σ : L2.St} {ρ : Env} {M : Mem}
theorem t1 {g : Env -> Mem -> Res D} {β : Type} {f : D -> Mem -> Res β} {P : β -> Mem -> Prop} {R : V -> Hp -> Prop} (hE : zbv fa K μ H σ ρ) (hM : RelM fa K μ H M) (h : okE ((g ρ M).bind f) P)
    (k : ∀ x M1 v H1 μ1, Ext μ H μ1 H1 -> zbv fa K μ1 H1 σ ρ -> RelM fa K μ1 H1 M1 -> Rep fa K μ1 H1 x v -> okE (f x M1) P -> R v H1) : tE fa K g σ H R := by
  obtain ⟨x, M1, e, q⟩ := zbl h
  refine ⟨μ, ρ, M, hE, hM, ?_⟩
  rw [e]
  exact fun v H1 μ1 x1 m1 r1 => k x M1 v H1 μ1 x1 (hE.ext x1) m1 r1 q
theorem tT1 {g : Env -> Mem -> Res Bool} {β : Type} {f : Bool -> Mem -> Res β} {P : β -> Mem -> Prop} {R : Bool -> Hp -> Prop} (hE : zbv fa K μ H σ ρ) (hM : RelM fa K μ H M) (h : okE ((g ρ M).bind f) P)
    (k : ∀ b M1 H1 μ1, Ext μ H μ1 H1 -> zbv fa K μ1 H1 σ ρ -> RelM fa K μ1 H1 M1 -> okE (f b M1) P -> R b H1) : tT fa K g σ H R := by
  obtain ⟨b, M1, e, q⟩ := zbl h
  refine ⟨μ, ρ, M, hE, hM, ?_⟩
  rw [e]
  exact fun H1 μ1 x1 m1 => k b M1 H1 μ1 x1 (hE.ext x1) m1 q
theorem tA1 {g : Env -> Mem -> Res (List D)} {β : Type} {f : List D -> Mem -> Res β} {P : β -> Mem -> Prop} {R : List V -> Hp -> Prop} (hE : zbv fa K μ H σ ρ) (hM : RelM fa K μ H M) (h : okE ((g ρ M).bind f) P)
    (k : ∀ ds M1 vs H1 μ1, Ext μ H μ1 H1 -> zbv fa K μ1 H1 σ ρ -> RelM fa K μ1 H1 M1 -> za6 fa K μ1 H1 ds vs -> okE (f ds M1) P -> R vs H1) : tA fa K g σ H R := by
  obtain ⟨ds, M1, e, q⟩ := zbl h
  refine ⟨μ, ρ, M, hE, hM, ?_⟩
  rw [e]
  exact fun v H1 μ1 x1 m1 r1 => k ds M1 v H1 μ1 x1 (hE.ext x1) m1 r1 q
end
end LD
namespace LD
open PySem PySem.Spec PyProof.Rows L2
mutual
def toPy : D -> PyData
  | .non => .none
  | .bl b => .bool b
  | .int i => .int i
  | .str x => .str x
  | .tup ds => .tuple (zcz ds)
  | .lst ds => .list (zcz ds)
  | .frz _ => .none
  | .cell _ => .none
  | .fn _ => .none
def zcz : List D -> List PyData
  | [] => []
  | d :: r => toPy d :: zcz r
end
theorem znf : ∀ (n : Nat) (d : D), zat n d = true -> (toPy d).canLay0 = true /\ (toPy d).depth ≤ n := by
  have all : ∀ (n : Nat), (∀ d, zat n d = true -> (toPy d).canLay0 = true /\ (toPy d).depth ≤ n) -> ∀ ds : List D, ds.all (zat n) = true -> PyData.canLayAll0 (zcz ds) = true /\ PyData.depthAll (zcz ds) ≤ n := by
    intro n h ds
    induction ds with
    | nil => intro _; simp [zcz, PyData.canLayAll0, PyData.depthAll]
    | cons d r ih =>
      intro q
      simp only [List.all_cons, Bool.and_eq_true] at q
      obtain ⟨h1, h2⟩ := h d q.1
      obtain ⟨h3, h4⟩ := ih q.2
      simp only [zcz, PyData.canLayAll0, PyData.depthAll, h1, h3, Bool.and_self, true_and]
      omega
  intro n
  induction n with
  | zero =>
    intro d h
    cases d with
    | str x => exact ⟨by simpa [toPy, PyData.canLay0, PyData.strOk, zat] using h, by simp [toPy, PyData.depth]⟩
    | tup _ => simp [zat] at h
    | lst _ => simp [zat] at h
    | frz _ => simp [zat] at h
    | cell _ => simp [zat] at h
    | fn _ => simp [zat] at h
    | _ => exact ⟨by simp [toPy, PyData.canLay0], by simp [toPy, PyData.depth]⟩
  | succ n ih =>
    intro d h
    cases d with
    | str x => exact ⟨by simpa [toPy, PyData.canLay0, PyData.strOk, zat] using h, by simp [toPy, PyData.depth]⟩
    | tup ds =>
      obtain ⟨h1, h2⟩ := all n ih ds (by simpa [zat] using h)
      simp only [toPy, PyData.canLay0, PyData.depth, h1, true_and]
      omega
    | lst ds =>
      obtain ⟨h1, h2⟩ := all n ih ds (by simpa [zat] using h)
      simp only [toPy, PyData.canLay0, PyData.depth, h1, true_and]
      omega
    | frz _ => simp [zat] at h
    | cell _ => simp [zat] at h
    | fn _ => simp [zat] at h
    | _ => exact ⟨by simp [toPy, PyData.canLay0], by simp [toPy, PyData.depth]⟩
theorem zi0 {d : D} (h : zat 64 d = true) : SeqAt.shaped (toPy d) = true := by
  obtain ⟨h1, h2⟩ := znf 64 d h
  simp [SeqAt.shaped, h1, h2]
mutual
theorem zk7 : ∀ (n m : Nat) (a b : D), zat n a = true -> zat m b = true -> PyData.eqv (toPy a) (toPy b) = zb1 a b
  | n, m, .tup a, .tup b, ha, hb => by
    cases n with
    | zero => simp [zat] at ha
    | succ n =>
      cases m with
      | zero => simp [zat] at hb
      | succ m =>
        simp only [toPy, PyData.eqv, zb1]
        exact zl0 n m a b (by simpa [zat] using ha) (by simpa [zat] using hb)
  | n, m, .lst a, .lst b, ha, hb => by
    cases n with
    | zero => simp [zat] at ha
    | succ n =>
      cases m with
      | zero => simp [zat] at hb
      | succ m =>
        simp only [toPy, PyData.eqv, zb1]
        exact zl0 n m a b (by simpa [zat] using ha) (by simpa [zat] using hb)
  | n, m, .frz _, _, ha, hb => by cases n <;> simp [zat] at ha
  | n, m, .cell _, _, ha, hb => by cases n <;> simp [zat] at ha
  | n, m, .fn _, _, ha, hb => by cases n <;> simp [zat] at ha
  | n, m, _, .frz _, ha, hb => by cases m <;> simp [zat] at hb
  | n, m, _, .cell _, ha, hb => by cases m <;> simp [zat] at hb
  | n, m, _, .fn _, ha, hb => by cases m <;> simp [zat] at hb
  | _, _, .non, .non, _, _ => by simp [toPy, PyData.eqv, zb1]
  | _, _, .non, .bl _, _, _ => by simp [toPy, PyData.eqv, zb1]
  | _, _, .non, .int _, _, _ => by simp [toPy, PyData.eqv, zb1]
  | _, _, .non, .str _, _, _ => by simp [toPy, PyData.eqv, zb1]
  | _, _, .non, .tup _, _, _ => by simp [toPy, PyData.eqv, zb1]
  | _, _, .non, .lst _, _, _ => by simp [toPy, PyData.eqv, zb1]
  | _, _, .bl _, .non, _, _ => by simp [toPy, PyData.eqv, zb1]
  | _, _, .bl _, .bl _, _, _ => by simp [toPy, PyData.eqv, zb1]
  | _, _, .bl _, .int _, _, _ => by simp [toPy, PyData.eqv, zb1]
  | _, _, .bl _, .str _, _, _ => by simp [toPy, PyData.eqv, zb1]
  | _, _, .bl _, .tup _, _, _ => by simp [toPy, PyData.eqv, zb1]
  | _, _, .bl _, .lst _, _, _ => by simp [toPy, PyData.eqv, zb1]
  | _, _, .int _, .non, _, _ => by simp [toPy, PyData.eqv, zb1]
  | _, _, .int _, .bl _, _, _ => by simp [toPy, PyData.eqv, zb1]
  | _, _, .int _, .int _, _, _ => by simp [toPy, PyData.eqv, zb1]
  | _, _, .int _, .str _, _, _ => by simp [toPy, PyData.eqv, zb1]
  | _, _, .int _, .tup _, _, _ => by simp [toPy, PyData.eqv, zb1]
  | _, _, .int _, .lst _, _, _ => by simp [toPy, PyData.eqv, zb1]
  | _, _, .str _, .non, _, _ => by simp [toPy, PyData.eqv, zb1]
  | _, _, .str _, .bl _, _, _ => by simp [toPy, PyData.eqv, zb1]
  | _, _, .str _, .int _, _, _ => by simp [toPy, PyData.eqv, zb1]
  | _, _, .str _, .str _, _, _ => by simp [toPy, PyData.eqv, zb1]
  | _, _, .str _, .tup _, _, _ => by simp [toPy, PyData.eqv, zb1]
  | _, _, .str _, .lst _, _, _ => by simp [toPy, PyData.eqv, zb1]
  | _, _, .tup _, .non, _, _ => by simp [toPy, PyData.eqv, zb1]
  | _, _, .tup _, .bl _, _, _ => by simp [toPy, PyData.eqv, zb1]
  | _, _, .tup _, .int _, _, _ => by simp [toPy, PyData.eqv, zb1]
  | _, _, .tup _, .str _, _, _ => by simp [toPy, PyData.eqv, zb1]
  | _, _, .tup _, .lst _, _, _ => by simp [toPy, PyData.eqv, zb1]
  | _, _, .lst _, .non, _, _ => by simp [toPy, PyData.eqv, zb1]
  | _, _, .lst _, .bl _, _, _ => by simp [toPy, PyData.eqv, zb1]
  | _, _, .lst _, .int _, _, _ => by simp [toPy, PyData.eqv, zb1]
  | _, _, .lst _, .str _, _, _ => by simp [toPy, PyData.eqv, zb1]
  | _, _, .lst _, .tup _, _, _ => by simp [toPy, PyData.eqv, zb1]
theorem zl0 : ∀ (n m : Nat) (a b : List D), a.all (zat n) = true -> b.all (zat m) = true -> PyData.eqvAll (zcz a) (zcz b) = zh5 a b
  | n, m, [], [], _, _ => by simp [zcz, PyData.eqvAll, zh5]
  | n, m, [], _ :: _, _, _ => by simp [zcz, PyData.eqvAll, zh5]
  | n, m, _ :: _, [], _, _ => by simp [zcz, PyData.eqvAll, zh5]
  | n, m, x :: a, y :: b, ha, hb => by
    simp only [List.all_cons, Bool.and_eq_true] at ha hb
    simp only [zcz, PyData.eqvAll, zh5]
    rw [zk7 n m x y ha.1 hb.1, zl0 n m a b ha.2 hb.2]
end
section
variable {fa : Fa} {X : Cx} {μ : Mu} {H : Hp} {σ : L2.St} {pins : List (Addr × Obj)} {s : Shared} {M : Mem}
theorem ziq {d : D} {v : V} {ds : List D} (hM : RelM fa X.K μ H M) (h : Rep fa X.K μ H d v) (e : zh3 M d = some ds) : ∃ a vs, v = .ref a /\ H a = some (.lst vs) /\ za6 fa X.K μ H ds vs := by
  cases d with
  | lst xs =>
    cases e
    obtain ⟨a, vs, e, s, r⟩ := h
    exact ⟨a, vs, e, s.1, r⟩
  | cell k =>
    obtain ⟨a, rfl, hk⟩ := h
    obtain ⟨b, vs, h1, h2, h3⟩ := hM.at' k ds e
    rw [hk] at h1; cases h1
    exact ⟨a, vs, rfl, h2, h3⟩
  | _ => cases e
theorem zcc {d : D} {v : V} {ds : List D} (hM : RelM fa X.K μ H M) (h : Rep fa X.K μ H d v) (e : rdD M d = some ds) : ∃ a vs, v = .ref a /\ SqL X.K H a vs /\ za6 fa X.K μ H ds vs := by
  cases d with
  | lst xs =>
    obtain ⟨a, vs, h1, h2, h3⟩ := ziq (ds := ds) hM h e
    exact ⟨a, vs, h1, .of h2, h3⟩
  | frz xs =>
    cases e
    obtain ⟨a, vs, e, s, r⟩ := h
    exact ⟨a, vs, e, s.elim (fun z => .inl (.inr z)) .inr, r⟩
  | cell k =>
    obtain ⟨a, vs, h1, h2, h3⟩ := ziq (ds := ds) hM h e
    exact ⟨a, vs, h1, .of h2, h3⟩
  | _ => cases e
theorem zio {d : D} {v : V} {ds : List D} (hM : RelM fa X.K μ H M) (h : Rep fa X.K μ H d v) (e : zcm M d = some ds) : ∃ a vs, v = .ref a /\ (SqL X.K H a vs \/ SqT X.K H a vs) /\ za6 fa X.K μ H ds vs := by
  cases d with
  | tup xs =>
    cases e
    obtain ⟨a, vs, rfl, h1, h2⟩ := h
    exact ⟨a, vs, rfl, .inr h1, h2⟩
  | lst xs =>
    obtain ⟨a, vs, h1, h2, h3⟩ := zcc (ds := ds) hM h e
    exact ⟨a, vs, h1, .inl h2, h3⟩
  | frz xs =>
    obtain ⟨a, vs, h1, h2, h3⟩ := zcc (ds := ds) hM h e
    exact ⟨a, vs, h1, .inl h2, h3⟩
  | cell k =>
    obtain ⟨a, vs, h1, h2, h3⟩ := zcc (ds := ds) hM h e
    exact ⟨a, vs, h1, .inl h2, h3⟩
  | _ => cases e
mutual
theorem ze8 (I : Inv X pins σ H s) : ∀ (d : D) (n : Nat) (v : V) (u : Value), zat n d = true -> Rep fa X.K μ H d v -> RelV v u -> ∃ as, Reads s.heap u (toPy d) as
  | .non, n, v, u, _, h, r => by
    obtain rfl : v = .non := h
    obtain rfl : u = Value.none := r
    exact ⟨_, .none⟩
  | .bl b, n, v, u, _, h, r => by
    obtain rfl : v = .bl b := h
    obtain rfl : u = Value.bool b := r
    exact ⟨_, .bool b⟩
  | .int i, n, v, u, _, h, r => by
    obtain rfl : v = .int i := h
    obtain ⟨t, rfl⟩ := r
    exact ⟨_, .int i t⟩
  | .str x, n, v, u, _, h, r => by
    obtain rfl : v = .str x := h
    obtain ⟨t, rfl⟩ := r
    exact ⟨_, .str x t⟩
  | .tup ds, n, v, u, hp, h, r => by
    cases n with
    | zero => simp [zat] at hp
    | succ n =>
      obtain ⟨a, vs, rfl, h1, h2⟩ := h
      obtain rfl : u = Value.ref a := r
      obtain ⟨its, rv, ⟨o, e1, e2, k, e3⟩, _⟩ := I.tuple h1
      obtain ⟨as, q⟩ := zf9 I ds n vs its (by simpa [zat] using hp) h2 rv
      exact ⟨_, .tuple e1 e2 e3 (by simpa using q)⟩
  | .lst ds, n, v, u, hp, h, r => by
    cases n with
    | zero => simp [zat] at hp
    | succ n =>
      obtain ⟨a, vs, rfl, h1, h2⟩ := h
      obtain rfl : u = Value.ref a := r
      obtain ⟨its, rv, ⟨o, k, e1, e2, e4, e3⟩, _⟩ := I.list (SqL.of h1.1)
      obtain ⟨as, q⟩ := zf9 I ds n vs its (by simpa [zat] using hp) h2 rv
      exact ⟨_, .list e1 e2 e3 (by simpa using q)⟩
  | .frz k, n, v, u, hp, _, _ => by cases n <;> simp [zat] at hp
  | .cell k, n, v, u, hp, _, _ => by cases n <;> simp [zat] at hp
  | .fn f, n, v, u, hp, _, _ => by cases n <;> simp [zat] at hp
theorem zf9 (I : Inv X pins σ H s) : ∀ (ds : List D) (n : Nat) (vs : List V) (us : List Value), ds.all (zat n) = true -> za6 fa X.K μ H ds vs -> Vals vs us -> ∃ as, ReadsAll s.heap us (zcz ds) as
  | [], n, vs, us, _, h, r => by
    obtain rfl : vs = [] := h
    cases r
    exact ⟨_, .nil⟩
  | d :: ds, n, vs, us, hp, h, r => by
    obtain ⟨v, vr, rfl, h1, h2⟩ := h
    simp only [List.all_cons, Bool.and_eq_true] at hp
    cases r with
    | cons r1 r2 =>
      obtain ⟨as, q1⟩ := ze8 I d n v _ hp.1 h1 r1
      obtain ⟨bs, q2⟩ := zf9 I ds n vr _ hp.2 h2 r2
      exact ⟨_, .cons q1 q2⟩
end
theorem zy6 {d : D} {n : Nat} (h : zat n (view M d) = true) : (view M d = d /\ zat n d = true) \/ ∃ ds, rdD M d = some ds /\ view M d = .lst ds := by
  cases d with
  | cell k =>
    cases e : M[k]? with
    | none =>
      have ev : view M (.cell k) = .cell k := by simp [view, e]
      rw [ev] at h
      cases n <;> simp [zat] at h
    | some ds => exact .inr ⟨ds, e, by simp [view, e]⟩
  | frz ds => exact .inr ⟨ds, rfl, rfl⟩
  | _ => exact .inl ⟨rfl, h⟩
theorem zjs (I : Inv X pins σ H s) (hM : RelM fa X.K μ H M) {d : D} {v : V} {u : Value} (hp : zat 64 (view M d) = true) (h : Rep fa X.K μ H d v) (r : RelV v u) : ∃ as, Reads s.heap u (toPy (view M d)) as := by
  rcases zy6 hp with ⟨e, hp'⟩ | ⟨ds, e, ev⟩
  · rw [e]; exact ze8 I _ 64 v u hp' h r
  · rw [ev] at hp ⊢
    obtain ⟨a, vs, rfl, h1, h2⟩ := zcc (ds := ds) hM h e
    obtain rfl : u = Value.ref a := r
    obtain ⟨its, rv, ⟨o, k, e1, e2, e4, e3⟩, _⟩ := I.list h1
    obtain ⟨as, q⟩ := zf9 I ds 63 vs its (by simpa [zat] using hp) h2 rv
    exact ⟨_, .list e1 e2 e3 (by simpa using q)⟩
theorem zjg (I : Inv X pins σ H s) (hM : RelM fa X.K μ H M) : ∀ (n m : Nat) (d : D) (v : V) (u : Value), zat m (zek n M d) = true -> Rep fa X.K μ H d v -> RelV v u -> ∃ as, Reads s.heap u (toPy (zek n M d)) as
  | 0, m, d, v, u, hp, h, r => ze8 I d m v u hp h r
  | n + 1, m, d, v, u, hp, h, r => by
    have ih := zjg I hM n
    have all : ∀ (m : Nat) (ds : List D) (vs : List V) (us : List Value), (ds.map (zek n M)).all (zat m) = true -> za6 fa X.K μ H ds vs -> Vals vs us -> ∃ as, ReadsAll s.heap us (zcz (ds.map (zek n M))) as := by
      intro m ds
      induction ds with
      | nil =>
        intro vs us _ h r
        obtain rfl : vs = [] := h
        cases r
        exact ⟨_, .nil⟩
      | cons d ds ihl =>
        intro vs us hp h r
        obtain ⟨v, vr, rfl, h1, h2⟩ := h
        simp only [List.map_cons, List.all_cons, Bool.and_eq_true] at hp
        cases r with
        | cons r1 r2 =>
          obtain ⟨as, q1⟩ := ih m d v _ hp.1 h1 r1
          obtain ⟨bs, q2⟩ := ihl vr _ hp.2 h2 r2
          exact ⟨_, .cons q1 q2⟩
    have lst : ∀ (ds : List D) (a : Addr) (vs : List V), zat m (.lst (ds.map (zek n M))) = true -> SqL X.K H a vs -> za6 fa X.K μ H ds vs -> u = .ref a -> ∃ as, Reads s.heap u (toPy (.lst (ds.map (zek n M)))) as := by
      intro ds a vs hp h1 h2 e
      subst e
      cases m with
      | zero => simp [zat] at hp
      | succ m =>
        obtain ⟨its, rv, ⟨o, k, e1, e2, e4, e3⟩, _⟩ := I.list h1
        obtain ⟨as, q⟩ := all m ds vs its (by simpa [zat] using hp) h2 rv
        exact ⟨_, .list e1 e2 e3 (by simpa using q)⟩
    cases d with
    | cell k =>
      cases e : M[k]? with
      | none =>
        have ev : zek (n + 1) M (.cell k) = .cell k := by simp [zek, e]
        rw [ev] at hp
        cases m <;> simp [zat] at hp
      | some ds =>
        have ev : zek (n + 1) M (.cell k) = .lst (ds.map (zek n M)) := by simp [zek, e]
        rw [ev] at hp ⊢
        obtain ⟨a, vs, rfl, h1, h2⟩ := zcc (ds := ds) hM h e
        exact lst ds a vs hp h1 h2 r
    | frz ds =>
      obtain ⟨a, vs, rfl, h1, h2⟩ := zcc (ds := ds) hM h rfl
      exact lst ds a vs hp h1 h2 r
    | lst ds =>
      obtain ⟨a, vs, rfl, h1, h2⟩ := zcc (ds := ds) hM h rfl
      exact lst ds a vs hp h1 h2 r
    | tup ds =>
      have hp : zat m (.tup (ds.map (zek n M))) = true := hp
      cases m with
      | zero => simp [zat] at hp
      | succ m =>
        obtain ⟨a, vs, rfl, h1, h2⟩ := h
        obtain rfl : u = Value.ref a := r
        obtain ⟨its, rv, ⟨o, e1, e2, k, e3⟩, _⟩ := I.tuple h1
        obtain ⟨as, q⟩ := all m ds vs its (by simpa [zat] using hp) h2 rv
        exact ⟨_, .tuple e1 e2 e3 (by simpa using q)⟩
    | non => exact ze8 I .non m v u hp h r
    | bl b => exact ze8 I (.bl b) m v u hp h r
    | int i => exact ze8 I (.int i) m v u hp h r
    | str x => exact ze8 I (.str x) m v u hp h r
    | fn f => exact ze8 I (.fn f) m v u hp h r
abbrev Rm (X : Cx) : Prop := X.A.units + 100 < cLine
def zg1 (fa : Fa) (K : PySem.W.Frag) (o : Cmp) : R2 := fun x y H Q => ∃ μ M dx dy b, RelM fa K μ H M /\ Rep fa K μ H dx x /\ Rep fa K μ H dy y /\ zb2 o dx dy M = some b /\ Q (.bl b) H
theorem zq7 {a b : D} {k : Bool} (h : eqD a b = some k) : zat 64 a = true /\ zat 64 b = true /\ k = zb1 a b := by
  unfold eqD at h
  split at h
  · next q =>
    simp only [Bool.and_eq_true] at q
    exact ⟨q.1, q.2, (Option.some.inj h).symm⟩
  · cases h
theorem zor (I : Inv X pins σ H s) (hM : RelM fa X.K μ H M) {a b : D} {x y : V} {v u : Value} {k : Bool} (h : eqM M a b = some k) (h1 : Rep fa X.K μ H a x) (h2 : Rep fa X.K μ H b y) (rx : RelV x v) (ry : RelV y u) :
    ∃ c e as bs, zat 64 c = true /\ zat 64 e = true /\ k = zb1 c e /\ Reads s.heap v (toPy c) as /\ Reads s.heap u (toPy e) bs := by
  unfold eqM at h
  cases q : eqD (view M a) (view M b) with
  | some r =>
    rw [q] at h
    cases h
    obtain ⟨p1, p2, e⟩ := zq7 q
    obtain ⟨as, r1⟩ := zjs I hM p1 h1 rx
    obtain ⟨bs, r2⟩ := zjs I hM p2 h2 ry
    exact ⟨_, _, as, bs, p1, p2, e, r1, r2⟩
  | none =>
    rw [q] at h
    obtain ⟨p1, p2, e⟩ := zq7 h
    obtain ⟨as, r1⟩ := zjg I hM 64 64 a x v p1 h1 rx
    obtain ⟨bs, r2⟩ := zjg I hM 64 64 b y u p2 h2 ry
    exact ⟨_, _, as, bs, p1, p2, e, r1, r2⟩
theorem c_eq (hu : Rm X) : OpR X (compareOp .Eq) (zg1 fa X.K .eq) := by
  intro pins s σ H x y v u Q I rx ry h
  obtain ⟨μ, M, dx, dy, b, hM, h1, h2, e, q⟩ := h
  obtain ⟨_, _, as, bs, p1, p2, rfl, r1, r2⟩ := zor I hM (show eqM M dx dy = some b from e) h1 h2 rx ry
  refine SeqAt.compareEq_shaped r1 r2 (zi0 p1) (zi0 p2) (by unfold Rm at hu; omega) ?_
  rw [zk7 64 64 _ _ p1 p2]
  exact ⟨.bl _, H, I, rfl, q⟩
theorem c_ne (hu : Rm X) : OpR X (compareOp .NotEq) (zg1 fa X.K .ne) := by
  intro pins s σ H x y v u Q I rx ry h
  obtain ⟨μ, M, dx, dy, b, hM, h1, h2, e, q⟩ := h
  have e : (eqM M dx dy).map (!·) = some b := e
  cases e' : eqM M dx dy with
  | none => rw [e'] at e; cases e
  | some k =>
    rw [e'] at e
    obtain rfl : (!k) = b := Option.some.inj e
    obtain ⟨_, _, as, bs, p1, p2, rfl, r1, r2⟩ := zor I hM e' h1 h2 rx ry
    refine SeqAt.compareNe_shaped r1 r2 (zi0 p1) (zi0 p2) (by unfold Rm at hu; omega) ?_
    rw [zk7 64 64 _ _ p1 p2]
    exact ⟨.bl _, H, I, rfl, q⟩
end
end LD
namespace LD
open PySem PySem.Spec PyProof.Rows L2
section
variable {fa : Fa} {X : Cx} {μ : Mu} {H : Hp} {σ : L2.St} {pins : List (Addr × Obj)} {s : Shared} {M : Mem}
theorem zhw {f : Value -> Value -> Sem Value} {r r' : R2} (h : OpR X f r) (i : ∀ x y H Q, r' x y H Q -> r x y H Q) : OpR X f r' := fun pins s σ H x y v u Q I rx ry q => h pins s σ H x y v u Q I rx ry (i x y H Q q)
theorem zj8 {f : Value} {r r' : List V -> Hp -> VK -> Prop} (h : zdr X f r) (i : ∀ xs H Q, r' xs H Q -> r xs H Q) : zdr X f r' := fun pins s σ H xs us Q I rx q => h pins s σ H xs us Q I rx (i xs H Q q)
theorem zk9 {o : Cmp} {g : Int -> Int -> Bool} (ho : o = .lt \/ o = .le \/ o = .gt \/ o = .ge) (hg : ∀ i j, zb2 o (.int i) (.int j) [] = some (g i j)) {x y : V} {Q : VK} (h : zg1 fa X.K o x y H Q) :
    ∃ i j, x = .int i /\ y = .int j /\ Q (.bl (g i j)) H := by
  obtain ⟨μ, M, dx, dy, b, hM, h1, h2, e, q⟩ := h
  have key : ∀ i j, dx = .int i -> dy = .int j -> ∃ i j, x = .int i /\ y = .int j /\ Q (.bl (g i j)) H := fun i j e1 e2 => by
    subst e1 e2
    have e3 : zb2 o (.int i) (.int j) M = some (g i j) := by
      have := hg i j
      rcases ho with rfl | rfl | rfl | rfl <;> exact this
    rw [e] at e3
    have e4 := Option.some.inj e3
    subst e4
    exact ⟨i, j, h1, h2, q⟩
  rcases ho with rfl | rfl | rfl | rfl <;>
  · cases dx <;> cases dy <;> first | exact key _ _ rfl rfl | cases e
theorem c_lt : OpR X (compareOp .Lt) (zg1 fa X.K .lt) := zhw op_lt fun x y H Q h => zk9 (.inl rfl) (fun _ _ => rfl) h
theorem c_le : OpR X (compareOp .LtE) (zg1 fa X.K .le) := zhw op_le fun x y H Q h => zk9 (.inr (.inl rfl)) (fun _ _ => rfl) h
theorem c_gt : OpR X (compareOp .Gt) (zg1 fa X.K .gt) := zhw op_gt fun x y H Q h => zk9 (.inr (.inr (.inl rfl))) (fun _ _ => rfl) h
theorem c_ge : OpR X (compareOp .GtE) (zg1 fa X.K .ge) := zhw op_ge fun x y H Q h => zk9 (.inr (.inr (.inr rfl))) (fun _ _ => rfl) h
theorem zsc {d : D} {v : V} {K : PySem.W.Frag} (h : Rep fa K μ H d v) : decide (v = .non) = zj5 d := by
  cases d with
  | non => obtain rfl : v = .non := h; rfl
  | bl b => obtain rfl : v = .bl b := h; rfl
  | int b => obtain rfl : v = .int b := h; rfl
  | str b => obtain rfl : v = .str b := h; rfl
  | tup b => obtain ⟨a, vs, rfl, _⟩ := h; rfl
  | lst b => obtain ⟨a, vs, rfl, _⟩ := h; rfl
  | frz b => obtain ⟨a, vs, rfl, _⟩ := h; rfl
  | cell b => obtain ⟨a, rfl, _⟩ := h; rfl
  | fn b => obtain ⟨a, rfl, _⟩ := h; rfl
theorem c_isN : OpR X (compareOp .Is) (zg1 fa X.K .isN) := zhw op_isN fun x y H Q h => by
  obtain ⟨μ, M, dx, dy, b, hM, h1, h2, e, q⟩ := h
  cases dy <;> first | cases (show (none : Option Bool) = some b from e) | skip
  refine ⟨h2, ?_⟩
  rw [zsc h1]
  have e : some (zj5 dx) = some b := e
  rw [Option.some.inj e]; exact q
theorem c_notN : OpR X (compareOp .IsNot) (zg1 fa X.K .notN) := zhw z0a fun x y H Q h => by
  obtain ⟨μ, M, dx, dy, b, hM, h1, h2, e, q⟩ := h
  cases dy <;> first | cases (show (none : Option Bool) = some b from e) | skip
  refine ⟨h2, ?_⟩
  rw [zsc h1]
  have e : some (!zj5 dx) = some b := e
  rw [Option.some.inj e]; exact q
theorem zrl (x : D) (hx : zat 64 x = true) : ∀ (ds : List D), ds.all (zat 63) = true -> ((zcz ds).any fun y => PyData.eqv y (toPy x)) = ds.any fun y => zb1 y x
  | [], _ => rfl
  | d :: r, h => by
    simp only [List.all_cons, Bool.and_eq_true] at h
    simp only [zcz, List.any_cons, zk7 63 64 d x h.1 hx, zrl x hx r h.2]
theorem zpr (n : Nat) : ∀ ds : List D, ds.all (zat n) = true -> PyData.canLayAll0 (zcz ds) = true /\ PyData.depthAll (zcz ds) ≤ n
  | [], _ => by simp [zcz, PyData.canLayAll0, PyData.depthAll]
  | d :: r, h => by
    simp only [List.all_cons, Bool.and_eq_true] at h
    obtain ⟨h1, h2⟩ := znf n d h.1
    obtain ⟨h3, h4⟩ := zpr n r h.2
    simp only [zcz, PyData.canLayAll0, PyData.depthAll, h1, h3, Bool.and_self, true_and]
    omega
theorem zuv (I : Inv X pins σ H s) (hM : RelM fa X.K μ H M) {d : D} {v : V} {u : Value} {ds : List D} (hp : ds.all (zat 63) = true) (h : Rep fa X.K μ H d v) (r : RelV v u) (e : zcm M d = some ds) :
    (∃ as, Reads s.heap u (.list (zcz ds)) as) \/ ∃ as, Reads s.heap u (.tuple (zcz ds)) as := by
  obtain ⟨a, vs, rfl, h1, h2⟩ := zio (ds := ds) hM h e
  obtain rfl : u = Value.ref a := r
  rcases h1 with h1 | h1
  · obtain ⟨its, rv, ⟨o, k, e1, e2, e4, e3⟩, _⟩ := I.list h1
    obtain ⟨as, q⟩ := zf9 I ds 63 vs its hp h2 rv
    exact .inl ⟨_, .list e1 e2 e3 (by simpa using q)⟩
  · obtain ⟨its, rv, ⟨o, e1, e2, k, e3⟩, _⟩ := I.tuple h1
    obtain ⟨as, q⟩ := zf9 I ds 63 vs its hp h2 rv
    exact .inr ⟨_, .tuple e1 e2 e3 (by simpa using q)⟩
theorem zv2 (hu : Rm X) {x y : V} {v u : Value} {dx dy : D} {ds : List D} {b : Bool} {Q : Value -> Shared -> Prop} (I : Inv X pins σ H s) (hM : RelM fa X.K μ H M) (h1 : Rep fa X.K μ H dx x) (h2 : Rep fa X.K μ H dy y) (rx : RelV x v) (ry : RelV y u)
    (e1 : zcm M dy = some ds) (e2 : inL (view M dx) ds = some b) (neg : Bool) (q : Q (.bool (if neg then !b else b)) s) : wpAny (model X.prog X.w) X.A (compareOp (if neg then .NotIn else .In) v u) Q X.xe s := by
  unfold inL at e2
  split at e2
  · next z =>
    simp only [Bool.and_eq_true] at z
    obtain ⟨p1, p2⟩ := z
    have e3 := Option.some.inj e2
    subst e3
    obtain ⟨as, r1⟩ := zjs I hM p1 h1 rx
    obtain ⟨c1, d1⟩ := znf 64 _ p1
    obtain ⟨c2, d2⟩ := zpr 63 ds p2
    have hu' : X.A.units + 1 + min (PyData.depthAll (zcz ds)) (toPy (view M dx)).depth < cLine := by unfold Rm at hu; omega
    rw [<- zrl _ p1 ds p2] at q
    rcases zuv I hM p2 h2 ry e1 with ⟨bs, r2⟩ | ⟨bs, r2⟩
    · cases neg
      · exact SeqAt.in_list_reads r2 r1 c2 c1 hu' q
      · exact SeqAt.notIn_list_reads r2 r1 c2 c1 hu' q
    · cases neg
      · exact SeqAt.in_tuple_reads r2 r1 c2 c1 hu' q
      · exact SeqAt.notIn_tuple_reads r2 r1 c2 c1 hu' q
  · cases e2
theorem c_in (hu : Rm X) : OpR X (compareOp .In) (zg1 fa X.K .isin) := by
  intro pins s σ H x y v u Q I rx ry h
  obtain ⟨μ, M, dx, dy, b, hM, h1, h2, e, q⟩ := h
  have gen : (zcm M dy).bind (inL (view M dx)) = some b -> wpAny (model X.prog X.w) X.A (compareOp .In v u) (EP X pins σ Q) X.xe s := fun e => by
    cases e1 : zcm M dy with
    | none => rw [e1] at e; cases e
    | some ds =>
      rw [e1] at e
      exact zv2 hu I hM h1 h2 rx ry e1 e false ⟨.bl b, H, I, rfl, q⟩
  by_cases hs : (∃ a, dx = .str a) /\ ∃ c, dy = .str c
  · obtain ⟨⟨a, rfl⟩, c, rfl⟩ := hs
    have e : some (zmc a c) = some b := e
    have e' := Option.some.inj e
    subst e'
    exact zvs pins s σ H x y v u Q I rx ry ⟨a, c, h1, h2, q⟩
  · refine gen ?_
    cases dx <;> first | exact e | (cases dy <;> first | exact e | exact absurd ⟨⟨_, rfl⟩, _, rfl⟩ hs)
theorem z0v (hu : Rm X) : OpR X (compareOp .NotIn) (zg1 fa X.K .notin) := by
  intro pins s σ H x y v u Q I rx ry h
  obtain ⟨μ, M, dx, dy, b, hM, h1, h2, e, q⟩ := h
  have gen : ((zcm M dy).bind (inL (view M dx))).map (!·) = some b -> wpAny (model X.prog X.w) X.A (compareOp .NotIn v u) (EP X pins σ Q) X.xe s := fun e => by
    cases e1 : zcm M dy with
    | none => rw [e1] at e; cases e
    | some ds =>
      rw [e1] at e
      cases e2 : inL (view M dx) ds with
      | none => rw [Option.bind_some, e2] at e; cases e
      | some k =>
        rw [Option.bind_some, e2] at e
        have e' := Option.some.inj e
        subst e'
        exact zv2 hu I hM h1 h2 rx ry e1 e2 true ⟨.bl _, H, I, rfl, q⟩
  by_cases hs : (∃ a, dx = .str a) /\ ∃ c, dy = .str c
  · obtain ⟨⟨a, rfl⟩, c, rfl⟩ := hs
    have e : some (!zmc a c) = some b := e
    have e' := Option.some.inj e
    subst e'
    exact zql pins s σ H x y v u Q I rx ry ⟨a, c, h1, h2, q⟩
  · refine gen ?_
    cases dx <;> first | exact e | (cases dy <;> first | exact e | exact absurd ⟨⟨_, rfl⟩, _, rfl⟩ hs)
def zcq : Cmp -> CmpOp
  | .eq => .Eq | .ne => .NotEq | .lt => .Lt | .le => .LtE | .gt => .Gt | .ge => .GtE | .isN => .Is | .notN => .IsNot | .isin => .In | .notin => .NotIn
theorem zlb (hu : Rm X) : ∀ o : Cmp, OpR X (compareOp (zcq o)) (zg1 fa X.K o)
  | .eq => c_eq hu | .ne => c_ne hu | .lt => c_lt | .le => c_le | .gt => c_gt | .ge => c_ge | .isN => c_isN | .notN => c_notN | .isin => c_in hu | .notin => z0v hu
def zkp (fa : Fa) (K : PySem.W.Frag) (m : Bool) (o : Bin) : R2 := fun x y H Q => ∃ μ M dx dy, RelM fa K μ H M /\ Rep fa K μ H dx x /\ Rep fa K μ H dy y /\ okE (zey m o dx dy M) (zbz fa K μ H Q)
theorem zbw {Q : VK} {d : D} {v : V} (hM : RelM fa X.K μ H M) (h : zbz fa X.K μ H Q d M) (r : Rep fa X.K μ H d v) : Q v H := h v H μ .refl hM r
theorem zgp {Q : VK} {m : Bool} {ds : List D} {vs : List V} (hM : RelM fa X.K μ H M) (r : za6 fa X.K μ H ds vs) (h : okE (zbn m ds M) (zbz fa X.K μ H Q)) : ds.length ≤ sz /\ ∀ p, H p = none -> Q (.ref p) (upd H p (.lst vs)) := by
  unfold zbn at h
  split at h
  · next hz =>
    refine ⟨hz, fun p hp => ?_⟩
    cases m with
    | true =>
      have h : zbz fa X.K μ H Q (.cell M.length) (M ++ [ds]) := h
      exact h (.ref p) _ (zgb μ M.length p) (Ext.cell hM hp) (hM.cell hp r) ⟨p, rfl, by simp [zgb]⟩
    | false =>
      have h : zbz fa X.K μ H Q (.lst ds) M := h
      exact h (.ref p) _ μ (Ext.alloc hM hp) (hM.alloc hp) ⟨p, vs, rfl, ⟨zc5, hM.fresh hp⟩, r.ext (Ext.alloc hM hp)⟩
  · exact h.elim
theorem zhd {Q : VK} {ds : List D} {vs : List V} (hM : RelM fa X.K μ H M) (r : za6 fa X.K μ H ds vs) (h : zbz fa X.K μ H Q (.tup ds) M) : ∀ p, H p = none -> Q (.ref p) (upd H p (.tup vs)) := fun p hp =>
  h (.ref p) _ μ (Ext.alloc hM hp) (hM.alloc hp) ⟨p, vs, rfl, .of zc5, r.ext (Ext.alloc hM hp)⟩
theorem zfr : sz = sizeLine := by rw [sizeLine_eq]; rfl
theorem zxq : OpR X (binaryOp .Add) (fun x y H Q => ∃ a b ys, x = .ref a /\ y = .ref b /\ SqT X.K H a [] /\ SqT X.K H b ys /\ Q (.ref b) H) := by
  intro pins s σ H x y v u Q I rx ry h
  obtain ⟨a, b, ys, rfl, rfl, ha, hb, q⟩ := h
  cases rx
  cases ry
  obtain ⟨its, r1, p1, _⟩ := I.tuple ha
  obtain ⟨its2, r2, p2, _⟩ := I.tuple hb
  cases r1
  obtain ⟨⟨cls, dd, data, sl⟩, ho, hc, n, hd⟩ := id p1
  obtain ⟨⟨cls2, dd2, data2, sl2⟩, ho2, hc2, n2, hd2⟩ := id p2
  simp only at hc hd hc2 hd2
  subst hc hd hc2 hd2
  exact concat_meets ⟨_, ho, rfl⟩ ⟨_, ho2, rfl⟩ noFill_tuple_add seq_tuple_add PySem.F.slot_tuple_add PySem.F.entry_tuple_add (PySem.F.args_tuple_add_2 _ _)
      (tuple_addW0 a b #[] its2.toArray n n2 dd dd2 sl sl2 rfl) ⟨ho, ho2, ⟨.ref b, H, I, rfl, q⟩⟩
theorem zyd {m : Bool} {x y : V} {v u : Value} {dx dy : D} {Q : VK} (I : Inv X pins σ H s) (hM : RelM fa X.K μ H M) (h1 : Rep fa X.K μ H dx x) (h2 : Rep fa X.K μ H dy y) (rx : RelV x v) (ry : RelV y u)
    (h : okE (match zh3 M dx, zh3 M dy with | some x, some y => zbn m (x ++ y) M | _, _ => .bad) (zbz fa X.K μ H Q)) : wpAny (model X.prog X.w) X.A (binaryOp .Add v u) (EP X pins σ Q) X.xe s := by
  cases e1 : zh3 M dx with
  | none => rw [e1] at h; exact h.elim
  | some xs =>
    cases e2 : zh3 M dy with
    | none => rw [e1, e2] at h; exact h.elim
    | some ys =>
      rw [e1, e2] at h
      obtain ⟨a, vs, rfl, ha, ra⟩ := ziq hM h1 e1
      obtain ⟨b, ws, rfl, hb, rb⟩ := ziq hM h2 e2
      obtain ⟨hz, k⟩ := zgp hM (ra.append rb) h
      refine op_cat pins s σ H _ _ v u Q I rx ry ⟨a, b, vs, ws, rfl, rfl, ha, hb, ?_, k⟩
      rw [ra.length, rb.length, <- List.length_append, <- zfr]; exact hz
theorem b_add (m : Bool) : OpR X (binaryOp .Add) (zkp fa X.K m .add) := by
  intro pins s σ H x y v u Q I rx ry h
  obtain ⟨μ, M, dx, dy, hM, h1, h2, h⟩ := h
  have hi : ∀ i j, dx = .int i -> dy = .int j -> wpAny (model X.prog X.w) X.A (binaryOp .Add v u) (EP X pins σ Q) X.xe s := fun i j e1 e2 => by
    subst e1 e2
    exact op_add pins s σ H x y v u Q I rx ry ⟨i, j, h1, h2, zbw (v := .int (i + j)) hM h rfl⟩
  have hs : ∀ i j, dx = .str i -> dy = .str j -> wpAny (model X.prog X.w) X.A (binaryOp .Add v u) (EP X pins σ Q) X.xe s := fun i j e1 e2 => by
    subst e1 e2
    have h : okE (if i.cps.size + j.cps.size ≤ sz then .ok (.str ⟨i.cps ++ j.cps⟩) M else .bad) (zbz fa X.K μ H Q) := h
    split at h
    · next hz => exact zti pins s σ H x y v u Q I rx ry ⟨i, j, h1, h2, by rw [<- zfr]; exact hz, zbw (v := .str ⟨i.cps ++ j.cps⟩) hM h rfl⟩
    · exact h.elim
  have ht : ∀ i j, dx = .tup i -> dy = .tup j -> wpAny (model X.prog X.w) X.A (binaryOp .Add v u) (EP X pins σ Q) X.xe s := fun i j e1 e2 => by
    subst e1 e2
    have h : okE (if (i ++ j).length ≤ sz then .ok (.tup (i ++ j)) M else .bad) (zbz fa X.K μ H Q) := h
    split at h
    · next hz =>
      have h : zbz fa X.K μ H Q (.tup (i ++ j)) M := h
      obtain ⟨a, vs, e1, ha, ra⟩ := id h1
      obtain ⟨b, ws, e2, hb, rb⟩ := id h2
      by_cases h0 : i = []
      · subst h0
        obtain rfl : vs = [] := ra
        exact zxq pins s σ H x y v u Q I rx ry ⟨a, b, ws, e1, e2, ha, hb, zbw hM h ⟨b, ws, rfl, hb, rb⟩⟩
      · have hv : vs ≠ [] := fun z => h0 (by have := ra.length; rw [z] at this; exact List.length_eq_zero_iff.mp this.symm)
        refine z0c pins s σ H x y v u Q I rx ry ⟨a, b, vs, ws, e1, e2, ha, hb, hv, ?_, fun z => ?_, fun _ => zhd hM (ra.append rb) h⟩
        · rw [ra.length, rb.length, <- List.length_append, <- zfr]; exact hz
        · subst z
          have ej : j = [] := List.length_eq_zero_iff.mp rb.length.symm
          subst ej
          exact zbw hM h ⟨a, vs, rfl, ha, by simpa using ra⟩
    · exact h.elim
  cases dx <;> cases dy <;> first | exact hi _ _ rfl rfl | exact hs _ _ rfl rfl | exact ht _ _ rfl rfl | exact zyd (m := m) I hM h1 h2 rx ry h
theorem b_int {op : Operator} {o : Bin} {m : Bool} {C : Int -> Int -> Prop} {g : Int -> Int -> Int} (hr : OpR X (binaryOp op) (rI C fun i j => .int (g i j)))
    (hD : ∀ dx dy M (P : D -> Mem -> Prop), okE (zey m o dx dy M) P -> ∃ i j, dx = .int i /\ dy = .int j /\ C i j /\ P (.int (g i j)) M) : OpR X (binaryOp op) (zkp fa X.K m o) := zhw hr fun x y H Q h => by
  obtain ⟨μ, M, dx, dy, hM, h1, h2, h⟩ := h
  obtain ⟨i, j, rfl, rfl, c, q⟩ := hD dx dy M _ h
  exact ⟨i, j, h1, h2, c, zbw (v := .int (g i j)) hM q rfl⟩
theorem b_sub (m : Bool) : OpR X (binaryOp .Sub) (zkp fa X.K m .sub) := b_int (C := fun _ _ => True) (g := fun i j => i - j) (zhw op_sub fun x y H Q ⟨i, j, e1, e2, _, q⟩ => ⟨i, j, e1, e2, q⟩) fun dx dy M P h => by
  cases dx <;> cases dy <;> first | exact ⟨_, _, rfl, rfl, trivial, h⟩ | exact h.elim
theorem b_fdiv (m : Bool) : OpR X (binaryOp .FloorDiv) (zkp fa X.K m .fdiv) := b_int z0b fun dx dy M P h => by
  have key : ∀ i j, dx = .int i -> dy = .int j -> ∃ i j, dx = .int i /\ dy = .int j /\ CDiv i j /\ P (.int (i / j)) M := fun i j e1 e2 => by
    subst e1 e2
    have h : okE (if 0 < j /\ j < 1073741824 then .ok (.int (i / j)) M else .bad) P := h
    split at h
    · next c => exact ⟨i, j, rfl, rfl, c, h⟩
    · exact h.elim
  cases dx <;> cases dy <;> first | exact key _ _ rfl rfl | exact h.elim
theorem b_mod (m : Bool) : OpR X (binaryOp .Mod) (zkp fa X.K m .mod) := b_int op_mod fun dx dy M P h => by
  have key : ∀ i j, dx = .int i -> dy = .int j -> ∃ i j, dx = .int i /\ dy = .int j /\ 0 < j /\ P (.int (i % j)) M := fun i j e1 e2 => by
    subst e1 e2
    have h : okE (if 0 < j then .ok (.int (i % j)) M else .bad) P := h
    split at h
    · next c => exact ⟨i, j, rfl, rfl, c, h⟩
    · exact h.elim
  cases dx <;> cases dy <;> first | exact key _ _ rfl rfl | exact h.elim
theorem b_pow (m : Bool) : OpR X (binaryOp .Pow) (zkp fa X.K m .pow) := b_int op_pow fun dx dy M P h => by
  have key : ∀ i j, dx = .int i -> dy = .int j -> ∃ i j, dx = .int i /\ dy = .int j /\ CPow i j /\ P (.int (i ^ j.toNat)) M := fun i j e1 e2 => by
    subst e1 e2
    have h : okE (if 0 ≤ j /\ j ≤ 1000000 /\ i.natAbs < 2 ^ 64 then .ok (.int (i ^ j.toNat)) M else .bad) P := h
    split at h
    · next c => exact ⟨i, j, rfl, rfl, c, h⟩
    · exact h.elim
  cases dx <;> cases dy <;> first | exact key _ _ rfl rfl | exact h.elim
theorem zw8 {m : Bool} {x y : V} {v u : Value} {dx : D} {j : Int} {Q : VK} (I : Inv X pins σ H s) (hM : RelM fa X.K μ H M) (h1 : Rep fa X.K μ H dx x) (h2 : Rep fa X.K μ H (.int j) y) (rx : RelV x v) (ry : RelV y u)
    (h : okE (match zh3 M dx with | some x => if x.length * j.toNat ≤ sz /\ -(2 ^ 63) ≤ j /\ j < 2 ^ 63 then zbn m (List.replicate j.toNat x).flatten M else .bad | none => .bad) (zbz fa X.K μ H Q)) :
    wpAny (model X.prog X.w) X.A (binaryOp .Mult v u) (EP X pins σ Q) X.xe s := by
  cases e1 : zh3 M dx with
  | none => rw [e1] at h; exact h.elim
  | some xs =>
    rw [e1] at h
    simp only at h
    split at h
    · next c =>
      obtain ⟨a, vs, rfl, ha, ra⟩ := ziq hM h1 e1
      obtain ⟨hz, k⟩ := zgp hM (ra.rep j.toNat) h
      exact op_rep pins s σ H _ _ v u Q I rx ry ⟨a, j, vs, rfl, h2, ha, c.2.1, c.2.2, by rw [ra.length, <- zfr]; exact c.1, k⟩
    · exact h.elim
end
end LD
namespace LD
open PySem PySem.Spec PyProof.Rows L2 PySem.Builtin
open PySem.Sem (wp)
theorem zlz : fillsNumberSlot (.type "tuple") "mul" = pure false :=
  PySem.fillsNumberSlot_seq (id := "tuple.__mul__") (r := some (.builtin "tuple.__rmul__")) F.slot_tuple_mul.lookup (by decide +kernel) F.slot_tuple_rmul.lookup (by decide +kernel)
theorem zqc : seqRepeat? (.type "tuple") = pure (some (.builtin "tuple.__mul__")) := by
  unfold seqRepeat?
  rw [PySem.seqSlot_of (T := "tuple") (name := "__mul__") (id := "tuple.__mul__") F.slot_tuple_mul.lookup (by decide +kernel), PySem.seqSlot_of (T := "tuple") (name := "__rmul__") (id := "tuple.__rmul__") F.slot_tuple_rmul.lookup (by decide +kernel)]
  rfl
theorem zno (a : Int) (t : Tok) (l : Addr) (items : Array Value) (n : Nat) (dd : Option Addr) (sl : Array (Option Value)) :
    Meets (Builtin.«int.__rmul__» ⟨[.int a t, .ref l], []⟩) (fun _ R s => s.heap.get? l = some { cls := .type "tuple", dict := dd, data := .seq items n, slots := sl } /\ R (.ok (.ret Value.notImplemented)) s) :=
  .of_wp fun prog w A R s h => by obtain ⟨hp, g, d, tk, os⟩ := s; obtain ⟨hl, h⟩ := h; wp_walk using wpAny_loadPart' hl; exact ⟨_, rfl, h⟩
theorem zth {x : Int} (h0 : -(2 ^ 63) ≤ x) (h1 : x < 2 ^ 63) : (decide (x < -2 ^ 63) || decide (x ≥ 2 ^ 63)) = false := by
  rw [decide_eq_false (by omega), decide_eq_false (by omega)]; rfl
theorem zny (l : Addr) (items : Array Value) (n : Nat) (dd : Option Addr) (sl : Array (Option Value)) (x : Int) (u : Tok) (h0 : -(2 ^ 63) ≤ x) (h1 : x < 2 ^ 63) (hc : (items.isEmpty || x == 1) = true) :
    Meets (Builtin.«tuple.__mul__» ⟨[.ref l, .int x u], []⟩) (fun _ R s => s.heap.get? l = some { cls := .type "tuple", dict := dd, data := .seq items n, slots := sl } /\ R (.ok (.ret (.ref l))) s) :=
  .of_wp fun prog w A R s h => by
    obtain ⟨hp, g, d, tk, os⟩ := s; obtain ⟨hl, h⟩ := h; have f1 := AutoSeq1.idx_int
    wp_walk using wpAny_loadPart' hl
    refine wpAny_ite_false (by rw [zth h0 h1]; rfl) ?_
    wp_walk using wpAny_loadPart' hl
    exact ⟨_, rfl, h⟩
theorem znz (l : Addr) (items : Array Value) (n : Nat) (dd : Option Addr) (sl : Array (Option Value)) (x : Int) (u : Tok) (h0 : -(2 ^ 63) ≤ x) (h1 : x < 2 ^ 63) (hc : (items.isEmpty || x == 1) = false) (hc1 : (decide (x ≤ 0) || items.isEmpty) = true) :
    Meets (Builtin.«tuple.__mul__» ⟨[.ref l, .int x u], []⟩) (fun _ R s => s.heap.get? l = some { cls := .type "tuple", dict := dd, data := .seq items n, slots := sl } /\ R (.ok (.ret (.ref s.heap.objs.size))) { s with heap := s.heap.push { cls := Value.type "tuple", data := Data.seq #[] }, toks := s.toks }) :=
  .of_wp fun prog w A R s h => by
    obtain ⟨hp, g, d, tk, os⟩ := s; obtain ⟨hl, h⟩ := h; have f1 := AutoSeq1.idx_int
    wp_walk using wpAny_loadPart' hl
    refine wpAny_ite_false (by rw [zth h0 h1]; rfl) ?_
    wp_walk using wpAny_loadPart' hl
    exact ⟨_, rfl, h⟩
theorem zn0 (l : Addr) (items : Array Value) (n : Nat) (dd : Option Addr) (sl : Array (Option Value)) (x : Int) (u : Tok) (h0 : -(2 ^ 63) ≤ x) (h1 : x < 2 ^ 63) (hc : (items.isEmpty || x == 1) = false) (hc1 : (decide (x ≤ 0) || items.isEmpty) = false)
    (hs : (items.size : Int) * x ≤ 16777216) (hs2 : (List.foldl (fun x1 x2 => x1 ++ x2) #[] (List.replicate x.toNat items)).size ≤ sizeLine) :
    Meets (Builtin.«tuple.__mul__» ⟨[.ref l, .int x u], []⟩) (fun _ R s => s.heap.get? l = some { cls := .type "tuple", dict := dd, data := .seq items n, slots := sl } /\ R (.ok (.ret (.ref s.heap.objs.size))) { s with heap := s.heap.push { cls := Value.type "tuple", data := Data.seq (List.foldl (fun x1 x2 => x1 ++ x2) #[] (List.replicate x.toNat items)) }, toks := s.toks }) :=
  .of_wp fun prog w A R s h => by
    obtain ⟨hp, g, d, tk, os⟩ := s; obtain ⟨hl, h⟩ := h; have f1 := AutoSeq1.idx_int
    wp_walk using wpAny_loadPart' hl
    refine wpAny_ite_false (by rw [zth h0 h1]; rfl) ?_
    wp_walk using wpAny_loadPart' hl
    refine wpAny_ite_false (decide_eq_false (by omega)) ?_
    wp_walk using wpAny_loadPart' hl
    refine wpAny_ite_false (decide_eq_false (by unfold Tuple.tupleTooMany; rw [sizeLine_eq]; simp; omega)) ?_
    wp_walk using wpAny_loadPart' hl
    exact ⟨_, rfl, h⟩
section
variable {fa : Fa} {X : Cx} {μ : Mu} {H : Hp} {σ : L2.St} {pins : List (Addr × Obj)} {s : Shared} {M : Mem}
theorem zol (its : List Value) (m : Nat) : List.foldl (fun x1 x2 => x1 ++ x2) #[] (List.replicate m its.toArray) = (List.replicate m its).flatten.toArray := by
  have := foldl_rep its m []
  rw [List.nil_append] at this
  exact this
theorem zz9 : OpR X (binaryOp .Mult) (fun x y H Q => ∃ l k xs, x = .ref l /\ y = .int k /\ SqT X.K H l xs /\ -(2 ^ 63) ≤ k /\ k < 2 ^ 63 /\ xs.length * k.toNat ≤ sz /\
    ((List.replicate k.toNat xs).flatten = xs -> Q (.ref l) H) /\ ∀ p, H p = none -> Q (.ref p) (upd H p (.tup (List.replicate k.toNat xs).flatten))) := by
  intro pins s σ H x y v u Q I rx ry h
  obtain ⟨l, k, xs, rfl, rfl, hq, h1, h2, hz, q1, q2⟩ := h
  cases rx
  obtain ⟨t, rfl⟩ := ry
  obtain ⟨its, r, p, hzz⟩ := I.tuple hq
  have hl := r.length
  obtain ⟨⟨cls, dd, data, sl⟩, ho, hc, n, hd⟩ := id p
  simp only at hc hd
  subst hc hd
  refine wpAny_binaryOp_repeat_ref (T := "tuple") (U := "int") (by decide) ⟨_, ho, rfl⟩ (fun s' => typeIs_int s' k t) zlz F.fills_int_mul F.slot_int_rmul zqc F.slot_int_index.lookup
    (call_meets F.slot_int_rmul (typeIs_int s k t) F.entry_int_rmul (F.args_int_rmul_2 _ _) (zno k t l its.toArray n dd sl) ⟨ho, rfl, ⟨_, ho, rfl⟩, ?_⟩)
  have new : ∀ (its' : List Value), Vals (List.replicate k.toNat xs).flatten its' -> EP X pins σ Q (.ref s.heap.objs.size) { s with heap := s.heap.push { cls := Value.type "tuple", data := Data.seq its'.toArray } } := fun its' r' => by
    refine ⟨.ref s.heap.objs.size, _, I.laid (t' := s.toks) (o := .tup (List.replicate k.toNat xs).flatten) (fun b ob q => Heap.get?_push_of_some _ q) (Nat.le_refl _) ?_, rfl, q2 _ (I.hok.fresh (Nat.le_refl _))⟩
    exact ⟨by rw [len_rep, Nat.mul_comm, <- zfr]; exact hz, _, r', IsTup.new _ _⟩
  by_cases c1 : (its.toArray.isEmpty || k == 1) = true
  · refine call_meets F.slot_tuple_mul ⟨_, ho, rfl⟩ F.entry_tuple_mul (F.args_tuple_mul_2 _ _) (zny l its.toArray n dd sl k t h1 h2 c1) ⟨ho, ⟨.ref l, H, I, rfl, q1 ?_⟩⟩
    rcases Bool.or_eq_true_iff.mp c1 with z | z
    · have e : its = [] := by simpa using z
      subst e
      have e2 : xs = [] := List.length_eq_zero_iff.mp hl
      subst e2
      simp
    · have e : k = 1 := by simpa using z
      subst e
      simp
  · have c1' : (its.toArray.isEmpty || k == 1) = false := by simpa using c1
    by_cases c2 : (decide (k ≤ 0) || its.toArray.isEmpty) = true
    · refine call_meets F.slot_tuple_mul ⟨_, ho, rfl⟩ F.entry_tuple_mul (F.args_tuple_mul_2 _ _) (znz l its.toArray n dd sl k t h1 h2 c1' c2) ⟨ho, new [] ?_⟩
      have hk : k ≤ 0 := by
        rcases Bool.or_eq_true_iff.mp c2 with z | z
        · simpa using z
        · rw [z] at c1'; cases c1'
      have hk0 : k.toNat = 0 := by omega
      rw [hk0]; exact .nil
    · have c2' : (decide (k ≤ 0) || its.toArray.isEmpty) = false := by simpa using c2
      have hk : 0 < k := by
        have := (Bool.or_eq_false_iff.mp c2').1
        simpa using this
      have hs : (its.toArray.size : Int) * k ≤ 16777216 := by
        have e1 : (its.toArray.size : Int) * k = ((xs.length * k.toNat : Nat) : Int) := by
          rw [List.size_toArray, <- hl, Int.natCast_mul, Int.toNat_of_nonneg (by omega)]
        rw [e1]
        have : xs.length * k.toNat ≤ 16777216 := hz
        omega
      have hs2 : (List.foldl (fun x1 x2 => x1 ++ x2) #[] (List.replicate k.toNat its.toArray)).size ≤ sizeLine := by
        rw [zol, List.size_toArray, len_rep, Nat.mul_comm, <- hl, <- zfr]; exact hz
      refine call_meets F.slot_tuple_mul ⟨_, ho, rfl⟩ F.entry_tuple_mul (F.args_tuple_mul_2 _ _) (zn0 l its.toArray n dd sl k t h1 h2 c1' c2' hs hs2) ⟨ho, ?_⟩
      rw [zol]
      exact new _ (r.rep k.toNat)
theorem b_mul (m : Bool) : OpR X (binaryOp .Mult) (zkp fa X.K m .mul) := by
  intro pins s σ H x y v u Q I rx ry h
  obtain ⟨μ, M, dx, dy, hM, h1, h2, h⟩ := h
  have hi : ∀ i j, dx = .int i -> dy = .int j -> wpAny (model X.prog X.w) X.A (binaryOp .Mult v u) (EP X pins σ Q) X.xe s := fun i j e1 e2 => by
    subst e1 e2
    have h : okE (if (-(2 ^ 64) < i /\ i < 2 ^ 64) \/ (-(2 ^ 64) < j /\ j < 2 ^ 64) then .ok (.int (i * j)) M else .bad) (zbz fa X.K μ H Q) := h
    split at h
    · next c => exact op_mul pins s σ H x y v u Q I rx ry ⟨i, j, h1, h2, c, zbw (v := .int (i * j)) hM h rfl⟩
    · exact h.elim
  have ht : ∀ i j, dx = .tup i -> dy = .int j -> wpAny (model X.prog X.w) X.A (binaryOp .Mult v u) (EP X pins σ Q) X.xe s := fun i j e1 e2 => by
    subst e1 e2
    have h : okE (if i.length * j.toNat ≤ sz /\ -(2 ^ 63) ≤ j /\ j < 2 ^ 63 then .ok (.tup (List.replicate j.toNat i).flatten) M else .bad) (zbz fa X.K μ H Q) := h
    split at h
    · next c =>
      have h : zbz fa X.K μ H Q (.tup (List.replicate j.toNat i).flatten) M := h
      obtain ⟨a, vs, e1, ha, ra⟩ := id h1
      refine zz9 pins s σ H x y v u Q I rx ry ⟨a, j, vs, e1, h2, ha, c.2.1, c.2.2, by rw [ra.length]; exact c.1, fun z => ?_, zhd hM (ra.rep j.toNat) h⟩
      refine zbw hM h ⟨a, vs, rfl, ha, ?_⟩
      have := ra.rep j.toNat
      rw [z] at this
      exact this
    · exact h.elim
  have hl : ∀ j, dy = .int j -> okE (match zh3 M dx with | some x => if x.length * j.toNat ≤ sz /\ -(2 ^ 63) ≤ j /\ j < 2 ^ 63 then zbn m (List.replicate j.toNat x).flatten M else .bad | none => .bad) (zbz fa X.K μ H Q) ->
      wpAny (model X.prog X.w) X.A (binaryOp .Mult v u) (EP X pins σ Q) X.xe s := fun j e1 h' => by
    subst e1
    exact zw8 (m := m) I hM h1 h2 rx ry h'
  cases dy with
  | int j => cases dx <;> first | exact hi _ _ rfl rfl | exact ht _ _ rfl rfl | exact hl _ rfl h
  | _ => cases dx <;> exact h.elim
def binOp : Bin -> Operator
  | .add => .Add | .sub => .Sub | .mul => .Mult | .fdiv => .FloorDiv | .mod => .Mod | .pow => .Pow
theorem b_all (m : Bool) : ∀ o : Bin, OpR X (binaryOp (binOp o)) (zkp fa X.K m o)
  | .add => b_add m | .sub => b_sub m | .mul => b_mul m | .fdiv => b_fdiv m | .mod => b_mod m | .pow => b_pow m
end
end LD
namespace LD
open PySem PySem.Spec PyProof.Rows L2
section
variable {fa : Fa} {X : Cx} {μ : Mu} {H : Hp} {σ : L2.St} {pins : List (Addr × Obj)} {s : Shared} {M : Mem}
theorem ix_imp {r r' : R2} (h : IxR X r) (i : ∀ x y H Q, r' x y H Q -> r x y H Q) : IxR X r' := fun value slice pins s σ H x y v u Q I rx ry q hs => h value slice pins s σ H x y v u Q I rx ry (i x y H Q q) hs
def rIdx (fa : Fa) (K : PySem.W.Frag) : R2 := fun x y H Q => ∃ μ M dx dy d, RelM fa K μ H M /\ Rep fa K μ H dx x /\ Rep fa K μ H dy y /\ zcp dx dy M = some d /\ zbz fa K μ H Q d M
theorem zq0 (n : Nat) (i : Int) : LD.ixN n i = L2.ixN n i := rfl
theorem i_all : IxR X (rIdx fa X.K) := ix_imp ix_seq fun x y H Q h => by
  obtain ⟨μ, M, dx, dy, d, hM, h1, h2, e, q⟩ := h
  have gen : ∀ i, dy = .int i -> ((zcm M dx).bind fun ds => (LD.ixN ds.length i).bind fun j => ds[j]?) = some d -> rIx X.K x y H Q := fun i e0 e' => by
    subst e0
    clear e
    have e := e'
    clear e'
    cases e1 : zcm M dx with
    | none => rw [e1] at e; cases e
    | some ds =>
      rw [e1, Option.bind_some] at e
      obtain ⟨a, vs, rfl, hq, r⟩ := zio hM h1 e1
      cases e2 : LD.ixN ds.length i with
      | none => rw [e2] at e; cases e
      | some j =>
        rw [e2, Option.bind_some] at e
        obtain ⟨v, hv, rv⟩ := r.get e
        have he : atI vs i = some v := by
          unfold atI
          rw [r.length, <- zq0, e2]; exact hv
        rcases hq with hq | hq
        · exact .inl ⟨a, vs, i, v, rfl, h2, hq, he, zbw hM q rv⟩
        · exact .inr (.inl ⟨a, vs, i, v, rfl, h2, hq, he, zbw hM q rv⟩)
  have str : ∀ z i, dx = .str z -> dy = .int i -> rIx X.K x y H Q := fun z i e1 e2 => by
    subst e1 e2
    have e : (if z.cps.size ≤ sz then (LD.ixN z.cps.size i).bind fun j => (z.cps[j]?).map fun c => D.str ⟨#[c]⟩ else none) = some d := e
    split at e
    · next hz =>
      cases e2 : LD.ixN z.cps.size i with
      | none => rw [e2] at e; cases e
      | some j =>
        rw [e2, Option.bind_some] at e
        cases e3 : z.cps[j]? with
        | none => rw [e3] at e; cases e
        | some c =>
          rw [e3] at e
          have e4 : D.str ⟨#[c]⟩ = d := Option.some.inj e
          subst e4
          refine .inr (.inr ⟨z, i, c, h1, h2, by rw [<- zfr]; exact hz, ?_, zbw hM q rfl⟩)
          unfold atI
          rw [show z.cps.toList.length = z.cps.size by simp, <- zq0, e2]
          simpa using e3
    · cases e
  cases dy with
  | int i => cases dx <;> first | exact str _ _ rfl rfl | exact gen _ rfl e
  | _ => cases dx <;> cases (show (none : Option D) = some d from e)
theorem sl_imp {r r' : V -> Option Int -> Option Int -> Hp -> VK -> Prop} (h : SlR X r) (i : ∀ x lo hi H Q, r' x lo hi H Q -> r x lo hi H Q) : SlR X r' := fun pins s σ H x v vl vu lo hi sl Q I rx hs pl pu q => h pins s σ H x v vl vu lo hi sl Q I rx hs pl pu (i x lo hi H Q q)
def zmr : D -> Option (Option Int)
  | .non => some none
  | .int i => some (some i)
  | _ => none
theorem zqa (n d : Nat) (x : D) : LD.sIx n d x = (zmr x).map (HT.sIx n d) := by
  cases x <;> rfl
theorem zp0 : SlR X (fun x lo hi H Q => ∃ a xs, x = .ref a /\ SqT X.K H a xs /\ (HT.sIx xs.length 0 lo = 0 /\ HT.sIx xs.length xs.length hi = xs.length) /\ Q (.ref a) H) := by
  intro pins s σ H x v vl vu lo hi sl Q I rx hs pl pu h
  obtain ⟨a, xs, rfl, hx, hw, q⟩ := h
  cases rx
  obtain ⟨its, r, ht, hz⟩ := I.tuple hx
  refine ⟨"tuple", _, PyProof.Rows.slot_tuple_getitem.lookup, ht.typeIs, ?_⟩
  have hlen : its.toArray.size = xs.length := by rw [List.size_toArray]; exact r.length.symm
  rw [<- hlen] at hw
  obtain ⟨os, hos, hcs, hds⟩ := id hs
  have hTs : s.TypeIs (.ref sl) "slice" := ⟨os, hos, hcs⟩
  unfold getItem
  try with_reducible refine wpAny_holding ?_
  first | refine wpAny_bind (wpAny_pure ?_) | skip
  refine wpAny_bind (wpAny_sequenceKey ht.typeIs (by decide) ?_)
  refine wpAny_bind (wpAny_callSpecial?_slot (name := Str.ofString "__getitem__") ht.typeIs PyProof.Rows.slot_tuple_getitem
    (wpAny_call_entry PyProof.Rows.slot_tuple_getitem ht.typeIs entry_tuple_getitem ?_ (args_tuple_getitem _ _)))
  show wpAny _ _ (Builtin.Tuple.tupleItemsOf (.ref a) >>= _) _ _ s
  refine wpAny_bind (tupleItemsOf_ ht ?_)
  refine wpAny_bind (wpAny_typeOf hTs ?_)
  rw [if_pos (by decide)]
  refine wpAny_bind (HT.zil hs pl pu ?_)
  have hyes : (((HT.sIx its.toArray.size 0 lo : Nat) : Int) == 0 && (1 : Int) == 1 && (HT.sIx its.toArray.size its.toArray.size hi - HT.sIx its.toArray.size 0 lo) == its.toArray.size) = true := by
    rw [hw.1, hw.2]; simp
  show wpAny _ _ (if (((HT.sIx its.toArray.size 0 lo : Nat) : Int) == 0 && (1 : Int) == 1 && (HT.sIx its.toArray.size its.toArray.size hi - HT.sIx its.toArray.size 0 lo) == its.toArray.size) = true then _ else _) _ _ s
  rw [if_pos hyes]
  refine wpAny_bind (m := Builtin.Tuple.tupleIsExact (.ref a)) ?_
  unfold Builtin.Tuple.tupleIsExact
  refine wpAny_bind (wpAny_typeOf ht.typeIs ?_)
  refine wpAny_pure ?_
  rw [if_pos (by decide)]
  exact wpAny_bind (wpAny_rule (wpAny_pure ⟨_, rfl, wpAny_pure ⟨.ref a, H, I, rfl, q⟩⟩))
def rSlc (fa : Fa) (K : PySem.W.Frag) (m : Bool) : V -> Option Int -> Option Int -> Hp -> VK -> Prop := fun x lo hi H Q => ∃ μ M dx dl dh, RelM fa K μ H M /\ Rep fa K μ H dx x /\ zmr dl = some lo /\ zmr dh = some hi /\ okE (zb7 m dx dl dh M) (zbz fa K μ H Q)
theorem zzn (m : Bool) : SlR X (rSlc fa X.K m) := by
  refine sl_imp (zzo.or (sl_tup.or zp0)) fun x lo hi H Q h => ?_
  obtain ⟨μ, M, dx, dl, dh, hM, h1, e1, e2, h⟩ := h
  have gen : okE (match rdD M dx with
    | some xs => match LD.sIx xs.length 0 dl, LD.sIx xs.length xs.length dh with
      | some l, some h => zbn m (cut xs l h) M
      | _, _ => .bad
    | none => .bad) (zbz fa X.K μ H Q) -> rSlL X.K x lo hi H Q := fun h => by
    cases e : rdD M dx with
    | none => rw [e] at h; exact h.elim
    | some xs =>
      rw [e] at h
      simp only [zqa, e1, e2, Option.map_some] at h
      obtain ⟨a, vs, rfl, hq, r⟩ := zcc hM h1 e
      have hl := r.length
      obtain ⟨_, k⟩ := zgp hM ((r.drop (HT.sIx xs.length 0 lo)).take (HT.sIx xs.length xs.length hi - HT.sIx xs.length 0 lo)) h
      refine ⟨a, vs, rfl, hq, ?_⟩
      unfold zkx
      rw [hl]
      exact k
  have tup : ∀ xs, dx = .tup xs -> rSlT X.K x lo hi H Q \/ ∃ a xs, x = .ref a /\ SqT X.K H a xs /\ (HT.sIx xs.length 0 lo = 0 /\ HT.sIx xs.length xs.length hi = xs.length) /\ Q (.ref a) H := fun xs e => by
    subst e
    have h : okE (match LD.sIx xs.length 0 dl, LD.sIx xs.length xs.length dh with
      | some l, some h => .ok (.tup (cut xs l h)) M
      | _, _ => .bad) (zbz fa X.K μ H Q) := h
    simp only [zqa, e1, e2, Option.map_some] at h
    have h : zbz fa X.K μ H Q (.tup (cut xs (HT.sIx xs.length 0 lo) (HT.sIx xs.length xs.length hi))) M := h
    obtain ⟨a, vs, rfl, hq, r⟩ := h1
    have hl := r.length
    by_cases hw : HT.sIx vs.length 0 lo = 0 /\ HT.sIx vs.length vs.length hi = vs.length
    · refine .inr ⟨a, vs, rfl, hq, hw, ?_⟩
      rw [hl] at hw
      have e3 : cut xs (HT.sIx xs.length 0 lo) (HT.sIx xs.length xs.length hi) = xs := by rw [hw.1, hw.2]; simp [cut]
      rw [e3] at h
      exact zbw hM h ⟨a, vs, rfl, hq, r⟩
    · refine .inl ⟨a, vs, rfl, hq, hw, ?_⟩
      have k := zhd hM ((r.drop (HT.sIx xs.length 0 lo)).take (HT.sIx xs.length xs.length hi - HT.sIx xs.length 0 lo)) h
      unfold zkx
      rw [hl]
      exact k
  cases dx <;> first | exact .inr (tup _ rfl) | exact .inl (gen h)
def rBlt (fa : Fa) (K : PySem.W.Frag) (f : Blt) : List V -> Hp -> VK -> Prop := fun vs H Q => ∃ μ M ds, RelM fa K μ H M /\ za6 fa K μ H ds vs /\ okE (zex f ds M) (zbz fa K μ H Q)
theorem zpl {d : D} {vs : List V} {K : PySem.W.Frag} (h : za6 fa K μ H [d] vs) : ∃ v, vs = [v] /\ Rep fa K μ H d v := by
  obtain ⟨v, r, rfl, h1, h2⟩ := h
  obtain rfl : r = [] := h2
  exact ⟨v, rfl, h1⟩
theorem f_len : zdr X (.builtin "len") (rBlt fa X.K .len) := zj8 (zre.or zrd) fun vs H Q h => by
  obtain ⟨μ, M, ds, hM, r, h⟩ := h
  match ds, r, h with
  | [], _, h => exact h.elim
  | d :: _ :: _, _, h => cases d <;> exact h.elim
  | [d], r, h =>
    obtain ⟨v, rfl, hv⟩ := zpl r
    have gen : okE (match zcm M d with | some xs => .ok (.int xs.length) M | none => .bad) (zbz fa X.K μ H Q) -> ∃ p ys, [v] = [.ref p] /\ (SqL X.K H p ys \/ SqT X.K H p ys) /\ Q (.int ys.length) H := fun h => by
      cases e : zcm M d with
      | none => rw [e] at h; exact h.elim
      | some xs =>
        rw [e] at h
        obtain ⟨a, vs, rfl, hq, r⟩ := zio hM hv e
        refine ⟨a, vs, rfl, hq, ?_⟩
        rw [r.length]
        exact zbw (v := .int xs.length) hM h rfl
    have str : ∀ x, d = .str x -> ∃ z, [v] = [V.str z] /\ z.length ≤ sizeLine /\ Q (.int z.length) H := fun x e => by
      subst e
      have h : okE (if x.cps.size ≤ sz then .ok (.int x.cps.size) M else .bad) (zbz fa X.K μ H Q) := h
      split at h
      · next c => exact ⟨x, by rw [show v = .str x from hv], by rw [<- zfr]; exact c, zbw (v := .int x.cps.size) hM h rfl⟩
      · exact h.elim
    cases d <;> first | exact .inr (str _ rfl) | exact .inl (gen h)
theorem z0i : zdr X (.type "tuple") (rBlt fa X.K .tuple) := zj8 zpg fun vs H Q h => by
  obtain ⟨μ, M, ds, hM, r, h⟩ := h
  match ds, r, h with
  | [], _, h => exact h.elim
  | d :: _ :: _, _, h => cases d <;> exact h.elim
  | [d], r, h =>
    obtain ⟨v, rfl, hv⟩ := zpl r
    have gen : okE (match rdD M d with | some xs => .ok (.tup xs) M | none => .bad) (zbz fa X.K μ H Q) -> ∃ p ys, [v] = [.ref p] /\ ((SqL X.K H p ys /\ ∀ l, H l = none -> Q (.ref l) (upd H l (.tup ys))) \/ (SqT X.K H p ys /\ Q (.ref p) H)) := fun h => by
      cases e : rdD M d with
      | none => rw [e] at h; exact h.elim
      | some xs =>
        rw [e] at h
        obtain ⟨a, vs, rfl, hq, r⟩ := zcc hM hv e
        exact ⟨a, vs, rfl, .inl ⟨hq, zhd hM r h⟩⟩
    have tup : ∀ x, d = .tup x -> ∃ p ys, [v] = [.ref p] /\ ((SqL X.K H p ys /\ ∀ l, H l = none -> Q (.ref l) (upd H l (.tup ys))) \/ (SqT X.K H p ys /\ Q (.ref p) H)) := fun x e => by
      subst e
      obtain ⟨a, vs, rfl, hq, r⟩ := id hv
      exact ⟨a, vs, rfl, .inr ⟨hq, zbw hM h hv⟩⟩
    cases d <;> first | exact tup _ rfl | exact gen h
theorem f_list (m : Bool) : zdr X (.type "list") (rBlt fa X.K (.list m)) := zj8 zrc fun vs H Q h => by
  obtain ⟨μ, M, ds, hM, r, h⟩ := h
  match ds, r, h with
  | [], _, h => exact h.elim
  | _ :: _ :: _, _, h => exact h.elim
  | [d], r, h =>
    obtain ⟨v, rfl, hv⟩ := zpl r
    have h : okE (match zcm M d with | some xs => zbn m xs M | none => .bad) (zbz fa X.K μ H Q) := h
    cases e : zcm M d with
    | none => rw [e] at h; exact h.elim
    | some xs =>
      rw [e] at h
      obtain ⟨a, vs, rfl, hq, r⟩ := zio hM hv e
      obtain ⟨_, k⟩ := zgp hM r h
      exact ⟨a, vs, rfl, hq, k⟩
end
end LD
namespace LD
open PySem PySem.Spec PyProof.Rows L2
section
variable {fa : Fa} {X : Cx} {μ : Mu} {H : Hp} {σ : L2.St} {pins : List (Addr × Obj)} {s : Shared} {M : Mem}
theorem truV {d : D} {v : V} {k : Bool} (hM : RelM fa X.K μ H M) (h : Rep fa X.K μ H d v) (e : zjh M d = some k) : TruV X.K v H k := by
  cases d with
  | non => obtain rfl : v = .non := h; exact (Option.some.inj e).symm
  | bl b => obtain rfl : v = .bl b := h; exact (Option.some.inj e).symm
  | int i => obtain rfl : v = .int i := h; exact (Option.some.inj e).symm
  | str x =>
    obtain rfl : v = .str x := h
    have e : (if x.cps.size ≤ sz then some (x.cps.size != 0) else none) = some k := e
    split at e
    · next c =>
      refine ⟨by rw [<- zfr]; exact c, ?_⟩
      rw [<- Option.some.inj e]
      show (x.cps.size != 0) = ((x.cps.size : Int) != 0)
      rw [Bool.eq_iff_iff]; simp
    · cases e
  | tup ds =>
    obtain ⟨a, vs, rfl, hq, r⟩ := h
    refine .inr (.inl ⟨vs, hq, ?_⟩)
    rw [<- Option.some.inj e]
    have := r.length
    cases vs <;> cases ds <;> simp_all
  | lst ds =>
    obtain ⟨a, vs, rfl, hq, r⟩ := zcc (ds := ds) hM h rfl
    refine .inl ⟨vs, hq, ?_⟩
    rw [<- Option.some.inj e]
    have := r.length
    cases vs <;> cases ds <;> simp_all
  | frz ds =>
    obtain ⟨a, vs, rfl, hq, r⟩ := zcc (ds := ds) hM h rfl
    refine .inl ⟨vs, hq, ?_⟩
    rw [<- Option.some.inj e]
    have := r.length
    cases vs <;> cases ds <;> simp_all
  | cell c =>
    have e : (M[c]?).map (fun ds => !ds.isEmpty) = some k := e
    cases e1 : M[c]? with
    | none => rw [e1] at e; cases e
    | some ds =>
      rw [e1] at e
      obtain ⟨a, vs, rfl, hq, r⟩ := zcc (ds := ds) hM h e1
      refine .inl ⟨vs, hq, ?_⟩
      rw [<- Option.some.inj e]
      have := r.length
      cases vs <;> cases ds <;> simp_all
  | fn f => cases e
theorem zu6 : ∀ {ds : List D} {bs : List Bool} {vs : List V} {us : List Value}, boolsOf ds = some bs -> za6 fa X.K μ H ds vs -> Vals vs us -> PyProof.Rows.LSm.BoolsAre us bs := by
  intro ds
  induction ds with
  | nil =>
    intro bs vs us e h r
    obtain rfl : vs = [] := h
    cases r; cases e
    exact .nil
  | cons d ds ih =>
    intro bs vs us e h r
    obtain ⟨v, vr, rfl, h1, h2⟩ := h
    cases r with
    | cons r1 r2 =>
      cases d with
      | bl b =>
        have e : (boolsOf ds).map (b :: ·) = some bs := e
        cases e1 : boolsOf ds with
        | none => rw [e1] at e; cases e
        | some cs =>
          rw [e1] at e
          have e2 : b :: cs = bs := Option.some.inj e
          subst e2
          obtain rfl : v = .bl b := h1
          obtain rfl : _ = Value.bool b := r1
          exact .cons b (ih e1 h2 r2)
      | _ => cases e
theorem zn6 : zdr X (.builtin "all") (fun xs H Q => ∃ μ ds bs p vs, xs = [.ref p] /\ X.calm = true /\ SqL X.K H p vs /\ za6 fa X.K μ H ds vs /\ boolsOf ds = some bs /\ Q (.bl (bs.all id)) H) := by
  intro pins s σ H xs us Q I r h
  obtain ⟨μ, ds, bs, p, vs, rfl, hc, hq, rl, eb, q⟩ := h
  obtain ⟨u, rfl, rx⟩ := vals1 r
  cases rx
  obtain ⟨its, rv, pl, hz⟩ := I.list hq
  have hb := zu6 eb rl rv
  have hlt : p < s.heap.objs.size := pl.lt
  refine call_all_walk (wpAny_pyIter_list pl.isList ?_)
  refine ⟨s.heap.objs.size, [s.heap.objs.size, p], [s.heap.objs.size], its.toArray.size, _, _, fun i => (bs[i]?).getD true, rfl, Walks.list (A := X.A.in1) (I.ok.hd hc) _ p (Nat.ne_of_lt hlt) its.toArray,
    ⟨⟨_, Heap.get?_push_size _ rfl, rfl, rfl⟩, pl.isList.push _⟩, fun i v s' Q' E' hP hQ => ?_, fun h' tk hk => ?_⟩
  · obtain ⟨b, e, rfl⟩ := hb.get i v (by simpa using hP)
    simp only [e, Option.getD_some] at hQ
    exact wpAny_truthy_bool hQ
  · have e : ((List.range its.toArray.size).all fun i => (bs[i]?).getD true) = bs.all id := by
      rw [List.size_toArray, hb.length]; exact PyProof.Rows.LSm.range_all bs
    rw [e]
    exact ⟨.bl _, H, I.kept (PyProof.Rows.LSm.kept_iter hk), rfl, q⟩
theorem f_all (hc : X.calm = true) : zdr X (.builtin "all") (rBlt fa X.K .all) := zj8 (zn6 (fa := fa)) fun vs H Q h => by
  obtain ⟨μ, M, ds, hM, r, h⟩ := h
  match ds, r, h with
  | [], _, h => exact h.elim
  | d :: _ :: _, _, h => exact h.elim
  | [d], r, h =>
    obtain ⟨v, rfl, hv⟩ := zpl r
    have h : okE (match rdD M d with | some xs => (match boolsOf xs with | some bs => .ok (.bl (bs.all id)) M | none => .bad) | none => .bad) (zbz fa X.K μ H Q) := h
    cases e : rdD M d with
    | none => rw [e] at h; exact h.elim
    | some xs =>
      rw [e] at h
      simp only at h
      cases e2 : boolsOf xs with
      | none => rw [e2] at h; exact h.elim
      | some bs =>
        rw [e2] at h
        obtain ⟨a, vs, rfl, hq, r⟩ := zcc hM hv e
        exact ⟨μ, xs, bs, a, vs, rfl, hc, hq, r, e2, zbw (v := .bl (bs.all id)) hM h rfl⟩
def tyName : Ty -> String
  | .int => "int" | .bool => "bool" | .str => "str" | .tuple => "tuple" | .list => "list" | .own _ => ""
def tyD : D -> String
  | .non => "NoneType" | .bl _ => "bool" | .int _ => "int" | .str _ => "str" | .tup _ => "tuple" | _ => "list"
theorem ty_of (t : Ty) (d : D) (b : Bool) (ht : ∀ c, t ≠ .own c) (e : zfk t d = some b) : PySem.W.kitOne X.K (.type (tyD d)) (.type (tyName t)) = some b := by
  cases t with
  | own c => exact absurd rfl (ht c)
  | _ => cases d <;> first | (cases (show (none : Option Bool) = some b from e)) | (have e' := Option.some.inj e; subst e'; (first | rfl | decide +kernel))
theorem zwt {d : D} {v : V} {b : Bool} {t : Ty} (hM : RelM fa X.K μ H M) (h : Rep fa X.K μ H d v) (e : zfk t d = some b) (I : Inv X pins σ H s) {u c : Value} (r : RelV v u) {Q : Value -> Shared -> Prop}
    (ek : PySem.W.kitOne X.K (.type (tyD d)) c = some b) (q : ∀ tk, Q (.bool b) { s with toks := tk }) : wpAny (model X.prog X.w) X.A (call (.builtin "isinstance") [u, c]) Q X.xe s := by
  cases d with
  | non => obtain rfl : v = .non := h; exact zi6 I r .non ek q
  | bl x => obtain rfl : v = .bl x := h; exact zi6 I r (.bl x) ek q
  | int x => obtain rfl : v = .int x := h; exact zi6 I r (.int x) ek q
  | str x => obtain rfl : v = .str x := h; exact zi6 I r (.str x) ek q
  | tup ds =>
    obtain ⟨a, vs, rfl, hq, _⟩ := h
    obtain rfl : u = Value.ref a := r
    obtain ⟨its, rv, ⟨o, h1, h2, _⟩, _⟩ := I.tuple hq
    exact PySem.W.kia_one PySem.W.kitx_tuple I.kIn ⟨o, h1, h2⟩ ek (fun z => nomatch z) q
  | lst ds =>
    obtain ⟨a, vs, rfl, hq, _⟩ := zcc (ds := ds) hM h rfl
    obtain rfl : u = Value.ref a := r
    obtain ⟨its, rv, ⟨o, n, h1, h2, _⟩, _⟩ := I.list hq
    exact PySem.W.kia_one PySem.W.kitx_list I.kIn ⟨o, h1, h2⟩ ek (fun z => nomatch z) q
  | frz ds =>
    obtain ⟨a, vs, rfl, hq, _⟩ := zcc (ds := ds) hM h rfl
    obtain rfl : u = Value.ref a := r
    obtain ⟨its, rv, ⟨o, n, h1, h2, _⟩, _⟩ := I.list hq
    exact PySem.W.kia_one PySem.W.kitx_list I.kIn ⟨o, h1, h2⟩ ek (fun z => nomatch z) q
  | cell k =>
    obtain ⟨a, rfl, hk⟩ := h
    obtain ⟨ds, vs, _, hq, _⟩ := hM.mu_lt hk
    obtain rfl : u = Value.ref a := r
    obtain ⟨its, rv, ⟨o, n, h1, h2, _⟩, _⟩ := I.list (SqL.of hq)
    exact PySem.W.kia_one PySem.W.kitx_list I.kIn ⟨o, h1, h2⟩ ek (fun z => nomatch z) q
  | fn f => cases e
def rInst (fa : Fa) (K : PySem.W.Frag) (t : Ty) : List V -> Hp -> VK -> Prop := fun vs H Q => ∃ μ M d v b, vs = [v, .ty (tyName t)] /\ RelM fa K μ H M /\ Rep fa K μ H d v /\ zfk t d = some b /\ Q (.bl b) H
theorem f_inst (t : Ty) (ht : ∀ c, t ≠ .own c) : zdr X (.builtin "isinstance") (rInst fa X.K t) := by
  intro pins s σ H xs us Q I r h
  obtain ⟨μ, M, d, v, b, rfl, hM, hv, e, q⟩ := h
  obtain ⟨u, w, rfl, r1, r2⟩ := vals2 r
  obtain rfl : w = Value.type (tyName t) := r2
  exact zwt hM hv e I r1 (ty_of t d b ht e) fun tk => ⟨.bl b, H, I.tok _, rfl, q⟩
end
end LD
namespace LD
open PySem PySem.Spec PyProof.Rows L2
section
variable {fa : Fa} {X : Cx}
abbrev DE (fa : Fa) (X : Cx) (e : PySem.Expr) (g : Env -> Mem -> Res D) : Prop := PE X e (tE fa X.K g)
abbrev DT (fa : Fa) (X : Cx) (e : PySem.Expr) (g : Env -> Mem -> Res Bool) : Prop := PT X e (tT fa X.K g)
abbrev DW (fa : Fa) (X : Cx) (e : PySem.Expr) (g : Env -> Mem -> Res Bool) : Prop := PW X e (tT fa X.K g)
abbrev DA (fa : Fa) (X : Cx) (es : List PySem.Expr) (g : Env -> Mem -> Res (List D)) : Prop := PA X es (tA fa X.K g)
abbrev DS (fa : Fa) (X : Cx) (st : PySem.Stmt) (g : Env -> Mem -> Res Fl) : Prop := PS X st (tF fa X.K g)
abbrev DSs (fa : Fa) (X : Cx) (st : List PySem.Stmt) (g : Env -> Mem -> Res Fl) : Prop := PSs X st (tF fa X.K g)
variable {a b d : PySem.Expr} {ga gb gd : Env -> Mem -> Res D} {pos : Pos}
theorem d_var {i : Nat} {x : Str} (hN : X.N[i]? = some x) (hv : Vis X.env.scope x) (hd : (x == ("__debug__" : Str)) = false) (hcd : (x == ("__classdict__" : Str)) = false) :
    DE fa X (.Name x pos) (fun ρ M => ofO M (ρ[i]?.getD none)) := zcu (zqe hN hv hd hcd) fun σ H Q ⟨μ, ρ, M, hE, hM, h⟩ => by
  obtain ⟨d, e, w⟩ := zk4 h
  have e' : ρ[i]? = some (some d) := by
    cases q : ρ[i]? with
    | none => rw [q] at e; cases e
    | some o => rw [q] at e; simp at e; rw [e]
  obtain ⟨v, h1, h2⟩ := hE.at' i d e'
  exact ⟨v, h1, zbw hM w h2⟩
theorem zjq {e : PySem.Expr} {dc : D} {v : V} (h : PE X e (tC v)) (r : ∀ μ H, Rep fa X.K μ H dc v) : DE fa X e (fun _ M => .ok dc M) := zcu h fun σ H Q ⟨μ, ρ, M, hE, hM, h⟩ => zbw hM h (r μ H)
theorem d_int {i : Int} {j : Nat} : DE fa X (.Constant (.int i) j pos) (fun _ M => .ok (.int i) M) := zjq (v := .int i) zvf fun _ _ => rfl
theorem d_bl {i : Bool} {j : Nat} : DE fa X (.Constant (.bool i) j pos) (fun _ M => .ok (.bl i) M) := zjq (v := .bl i) pe_bl fun _ _ => rfl
theorem d_str {i : Str} {j : Nat} : DE fa X (.Constant (.str i) j pos) (fun _ M => .ok (.str i) M) := zjq (v := .str i) pe_str fun _ _ => rfl
theorem d_non {j : Nat} : DE fa X (.Constant .none j pos) (fun _ M => .ok .non M) := zjq (v := .non) pe_non fun _ _ => rfl
theorem t2 {μ : Mu} {H : Hp} {σ : L2.St} {ρ : Env} {M : Mem} {β : Type} {f : D -> D -> Mem -> Res β} {P : β -> Mem -> Prop} {R : V -> V -> Hp -> Prop} (hE : zbv fa X.K μ H σ ρ) (hM : RelM fa X.K μ H M)
    (h : okE ((ga ρ M).bind fun x M => (gb ρ M).bind fun y M => f x y M) P)
    (k : ∀ x y M2 v u H2 μ2, Ext μ H μ2 H2 -> zbv fa X.K μ2 H2 σ ρ -> RelM fa X.K μ2 H2 M2 -> Rep fa X.K μ2 H2 x v -> Rep fa X.K μ2 H2 y u -> okE (f x y M2) P -> R v u H2) :
    tE fa X.K ga σ H fun v H1 => tE fa X.K gb σ H1 fun u H2 => R v u H2 :=
  t1 hE hM h fun x M1 v H1 μ1 x1 hE1 hM1 r1 h1 => t1 hE1 hM1 h1 fun y M2 u H2 μ2 x2 hE2 hM2 r2 h2 => k x y M2 v u H2 μ2 (x1.trans x2) hE2 hM2 (r1.ext x2) r2 h2
theorem d_bin (m : Bool) (o : Bin) (ha : DE fa X a ga) (hb : DE fa X b gb) : DE fa X (.BinOp a (binOp o) b pos) (fun ρ M => (ga ρ M).bind fun x M => (gb ρ M).bind fun y M => zey m o x y M) :=
  zcu (pe_op (b_all m o) ha hb) fun σ H Q ⟨μ, ρ, M, hE, hM, h⟩ => t2 hE hM h fun x y M2 v u H2 μ2 x2 hE2 hM2 r1 r2 h2 => ⟨μ2, M2, x, y, hM2, r1, r2, okW h2 x2⟩
theorem zmt {r : Option Bool} {M : Mem} {P : D -> Mem -> Prop} (h : okE ((ofO M r).bind fun b M => .ok (.bl b) M) P) : ∃ b, r = some b /\ P (.bl b) M := by
  obtain ⟨b, M1, e, q⟩ := zbl h
  cases r with
  | none => cases e
  | some b' => cases e; exact ⟨_, rfl, q⟩
theorem d_cmp (hu : Rm X) (o : Cmp) (ha : DE fa X a ga) (hb : DE fa X b gb) (hm : behindInMarks (zcq o) b = false) :
    DE fa X (.Compare a [zcq o] [b] pos) (fun ρ M => (ga ρ M).bind fun x M => (gb ρ M).bind fun y M => (ofO M (zb2 o x y M)).bind fun b M => .ok (.bl b) M) :=
  zcu (zz5 (zlb hu o) ha hb hm) fun σ H Q ⟨μ, ρ, M, hE, hM, h⟩ => t2 hE hM h fun x y M2 v u H2 μ2 x2 hE2 hM2 r1 r2 h2 => by
    obtain ⟨b, e, q⟩ := zmt h2
    exact ⟨μ2, M2, x, y, b, hM2, r1, r2, e, zbw (v := .bl b) hM2 (q.ext x2) rfl⟩
theorem dt_cmp (hu : Rm X) (o : Cmp) (ha : DE fa X a ga) (hb : DE fa X b gb) (hm : behindInMarks (zcq o) b = false) :
    DT fa X (.Compare a [zcq o] [b] pos) (fun ρ M => ((ga ρ M).bind fun x M => (gb ρ M).bind fun y M => (ofO M (zb2 o x y M)).bind fun b M => .ok (.bl b) M).bind fun x M => ofO M (zjh M x)) :=
  zkr (zsf (zlb hu o) ha hb hm) fun σ H Q ⟨μ, ρ, M, hE, hM, h⟩ => by
    obtain ⟨z, M3, e, q⟩ := zbl h
    have h' : okE ((ga ρ M).bind fun x M => (gb ρ M).bind fun y M => (ofO M (zb2 o x y M)).bind fun b M => .ok (.bl b) M) (fun d M => d = z /\ M = M3) := by rw [e]; exact ⟨rfl, rfl⟩
    refine t2 hE hM h' fun x y M2 v u H2 μ2 x2 hE2 hM2 r1 r2 h2 => ?_
    obtain ⟨b, e1, e2, e3⟩ := zmt h2
    subst e2 e3
    exact ⟨μ2, M2, x, y, b, hM2, r1, r2, e1, b, rfl, q H2 μ2 x2 hM2⟩
theorem zy7 {g : Env -> Mem -> Res D} {σ : L2.St} {H : Hp} {Q : Bool -> Hp -> Prop} (hb : ∀ ρ M x M', g ρ M = .ok x M' -> ∃ k, x = .bl k) (h : tT fa X.K (fun ρ M => (g ρ M).bind fun x M => ofO M (zjh M x)) σ H Q) :
    tE fa X.K g σ H (fun x H' => ∃ k, x = .bl k /\ Q k H') := by
  obtain ⟨μ, ρ, M, hE, hM, h⟩ := h
  obtain ⟨x, M1, e, q⟩ := zbl h
  obtain ⟨k, rfl⟩ := hb ρ M x M1 e
  refine ⟨μ, ρ, M, hE, hM, ?_⟩
  rw [e]
  intro v H1 μ1 x1 m1 r1
  obtain rfl : v = .bl k := r1
  exact ⟨k, rfl, q H1 μ1 x1 m1⟩
theorem i_chn {o o' : Cmp} {gc : Env -> Mem -> Res D} (σ : L2.St) (H : Hp) (Q : VK) : tE fa X.K (fun ρ M => (ga ρ M).bind fun x M => (gb ρ M).bind fun y M => (ofO M (zb2 o x y M)).bind fun k M =>
      if k then (gc ρ M).bind fun z M => (ofO M (zb2 o' y z M)).bind fun b M => .ok (.bl b) M else .ok (.bl false) M) σ H Q -> zps (zg1 fa X.K o) (zg1 fa X.K o') (tE fa X.K ga) (tE fa X.K gb) (tE fa X.K gc) σ H Q := fun ⟨μ, ρ, M, hE, hM, h⟩ => by
  refine t2 hE hM h fun x y M2 v u H2 μ2 x2 hE2 hM2 r1 r2 h2 => ?_
  obtain ⟨k, M3, e, q⟩ := zbl h2
  cases ec : zb2 o x y M2 with
  | none => rw [ec] at e; cases e
  | some k' =>
    rw [ec] at e
    cases e
    refine ⟨μ2, _, x, y, k, hM2, r1, r2, ec, k, rfl, ?_⟩
    cases k with
    | false => exact zbw (v := .bl false) hM2 (zbz.ext q x2) rfl
    | true =>
      refine t1 hE2 hM2 q fun z M4 w H4 μ4 x4 hE4 hM4 r4 h4 => ?_
      obtain ⟨b, e4, q4⟩ := zmt h4
      exact ⟨μ4, M4, y, z, b, hM4, r2.ext x4, r4, e4, zbw (v := .bl b) hM4 (q4.ext (x2.trans x4)) rfl⟩
theorem d_chn (hu : Rm X) (o o' : Cmp) {gc : Env -> Mem -> Res D} (ha : DE fa X a ga) (hb : DE fa X b gb) (hc : DE fa X d gc) (hm : lastMarks [zcq o, zcq o'] [b, d] = false) :
    DE fa X (.Compare a [zcq o, zcq o'] [b, d] pos) (fun ρ M => (ga ρ M).bind fun x M => (gb ρ M).bind fun y M => (ofO M (zb2 o x y M)).bind fun k M =>
      if k then (gc ρ M).bind fun z M => (ofO M (zb2 o' y z M)).bind fun b M => .ok (.bl b) M else .ok (.bl false) M) := zcu (zxi (zlb hu o) (zlb hu o') ha hb hc hm) i_chn
theorem zxr {r : Option Bool} {M M' : Mem} {x : D} (h : ((ofO M r).bind fun b M => Res.ok (.bl b) M) = .ok x M') : ∃ k, x = .bl k := by
  cases r with
  | none => cases h
  | some b => cases h; exact ⟨b, rfl⟩
theorem zet {α β : Type} {r : Res α} {f : α -> Mem -> Res β} {x : β} {M : Mem} (h : r.bind f = .ok x M) : ∃ a M1, r = .ok a M1 /\ f a M1 = .ok x M := by
  cases r with
  | ok a M1 => exact ⟨a, M1, rfl, h⟩
  | err => cases h
  | bad => cases h
theorem dt_chn (hu : Rm X) (o o' : Cmp) {gc : Env -> Mem -> Res D} (ha : DE fa X a ga) (hb : DE fa X b gb) (hc : DE fa X d gc) (hm : lastMarks [zcq o, zcq o'] [b, d] = false) :
    DT fa X (.Compare a [zcq o, zcq o'] [b, d] pos) (fun ρ M => ((ga ρ M).bind fun x M => (gb ρ M).bind fun y M => (ofO M (zb2 o x y M)).bind fun k M =>
      if k then (gc ρ M).bind fun z M => (ofO M (zb2 o' y z M)).bind fun b M => .ok (.bl b) M else .ok (.bl false) M).bind fun x M => ofO M (zjh M x)) :=
  zkr (zxc (zlb hu o) (zlb hu o') ha hb hc hm) fun σ H Q h => i_chn σ H _ (zy7 (fun ρ M x M' e => by
    obtain ⟨x1, M1, _, e⟩ := zet e
    obtain ⟨x2, M2, _, e⟩ := zet e
    obtain ⟨k, M3, _, e⟩ := zet e
    cases k with
    | false => cases e; exact ⟨_, rfl⟩
    | true =>
      obtain ⟨x4, M4, _, e⟩ := zet e
      exact zxr e) h)
theorem d_neg (ha : DE fa X a ga) : DE fa X (.UnaryOp .USub a pos) (fun ρ M => (ga ρ M).bind fun x M => match x with | .int i => .ok (.int (-i)) M | _ => .bad) :=
  zcu (pe_un zue ha) fun σ H Q ⟨μ, ρ, M, hE, hM, h⟩ => t1 hE hM h fun x M1 v H1 μ1 x1 hE1 hM1 r1 h1 => by
    cases x with
    | int i => exact ⟨i, r1, zbw (v := .int (-i)) hM1 (zbz.ext h1 x1) rfl⟩
    | _ => exact h1.elim
theorem d_and {rest : List PySem.Expr} (ha : DE fa X a ga) (hb : DE fa X (.BoolOp .And (b :: rest) pos) gb) : DE fa X (.BoolOp .And (a :: b :: rest) pos) (fun ρ M => (ga ρ M).bind fun x M => match x with
    | .bl true => gb ρ M
    | .bl false => .ok (.bl false) M
    | _ => .bad) :=
  zcu (pe_and ha hb) fun σ H Q ⟨μ, ρ, M, hE, hM, h⟩ => t1 hE hM h fun x M1 v H1 μ1 x1 hE1 hM1 r1 h1 => by
    cases x with
    | bl k =>
      refine ⟨k, r1, ?_⟩
      cases k with
      | true => exact ⟨μ1, ρ, M1, hE1, hM1, okW h1 x1⟩
      | false => exact zbw (v := .bl false) hM1 (zbz.ext h1 x1) rfl
    | _ => exact h1.elim
theorem d_one {op : PySem.BoolOp} (ha : DE fa X a ga) : DE fa X (.BoolOp op [a] pos) ga := pe_one ha
theorem d_not (ha : DE fa X a ga) : DE fa X (.UnaryOp .Not a pos) (fun ρ M => (ga ρ M).bind fun x M => match x with | .bl k => .ok (.bl (!k)) M | _ => .bad) :=
  zcu (pe_not ha) fun σ H Q ⟨μ, ρ, M, hE, hM, h⟩ => t1 hE hM h fun x M1 v H1 μ1 x1 hE1 hM1 r1 h1 => by
    cases x with
    | bl k => exact ⟨k, r1, zbw (v := .bl (!k)) hM1 (zbz.ext h1 x1) rfl⟩
    | _ => exact h1.elim
variable {ta tb : Env -> Mem -> Res Bool}
theorem z0k (ha : DT fa X a ta) : DW fa X (.BoolOp .And [a] pos) ta := zzw ha
theorem dw_or1 (ha : DT fa X a ta) : DW fa X (.BoolOp .Or [a] pos) ta := pw_or1 ha
theorem okT {b' : Res Bool} {μ μ' : Mu} {H H' : Hp} {Q : Bool -> Hp -> Prop} (x : Ext μ H μ' H') (h : okE b' fun b M' => ∀ H'' μ'', Ext μ H μ'' H'' -> RelM fa X.K μ'' H'' M' -> Q b H'') : okE b' fun b M' => ∀ H'' μ'', Ext μ' H' μ'' H'' -> RelM fa X.K μ'' H'' M' -> Q b H'' :=
  za9 h fun b M q H'' μ'' y m => q H'' μ'' (x.trans y) m
theorem dw_and {rest : List PySem.Expr} (ha : DT fa X a ta) (hb : DW fa X (.BoolOp .And (b :: rest) pos) tb) : DW fa X (.BoolOp .And (a :: b :: rest) pos) (fun ρ M => (ta ρ M).bind fun k M => if k then tb ρ M else .ok false M) :=
  zva (pw_and ha hb) fun σ H Q ⟨μ, ρ, M, hE, hM, h⟩ => tT1 hE hM h fun k M1 H1 μ1 x1 hE1 hM1 h1 => by
    cases k with
    | true => exact ⟨μ1, ρ, M1, hE1, hM1, okT x1 h1⟩
    | false => exact h1 H1 μ1 x1 hM1
theorem dw_or {rest : List PySem.Expr} (ha : DT fa X a ta) (hb : DW fa X (.BoolOp .Or (b :: rest) pos) tb) : DW fa X (.BoolOp .Or (a :: b :: rest) pos) (fun ρ M => (ta ρ M).bind fun k M => if k then .ok true M else tb ρ M) :=
  zva (pw_or ha hb) fun σ H Q ⟨μ, ρ, M, hE, hM, h⟩ => tT1 hE hM h fun k M1 H1 μ1 x1 hE1 hM1 h1 => by
    cases k with
    | true => exact h1 H1 μ1 x1 hM1
    | false => exact ⟨μ1, ρ, M1, hE1, hM1, okT x1 h1⟩
theorem dt_not (ha : DT fa X a ta) : DT fa X (.UnaryOp .Not a pos) (fun ρ M => (ta ρ M).bind fun k M => .ok (!k) M) :=
  zkr (pt_not ha) fun σ H Q ⟨μ, ρ, M, hE, hM, h⟩ => tT1 hE hM h fun k M1 H1 μ1 x1 hE1 hM1 h1 => h1 H1 μ1 x1 hM1
theorem zx7 (ha : DE fa X a ga) (he : ∀ whole, isTrue a X.env whole = (do let v <- whole; standAt a.pos; holding [v] (truthy v))) : DT fa X a (fun ρ M => (ga ρ M).bind fun x M => ofO M (zjh M x)) :=
  zkr (zxb ha he) fun σ H Q ⟨μ, ρ, M, hE, hM, h⟩ => t1 hE hM h fun x M1 v H1 μ1 x1 hE1 hM1 r1 h1 => by
    obtain ⟨k, e, q⟩ := zk4 h1
    exact ⟨k, truV hM1 r1 e, q H1 μ1 x1 hM1⟩
theorem d_ite {c : PySem.Expr} {gc : Env -> Mem -> Res Bool} (hc : DT fa X c gc) (ha : DE fa X a ga) (hb : DE fa X b gb) : DE fa X (.IfExp c a b pos) (fun ρ M => (gc ρ M).bind fun k M => if k then ga ρ M else gb ρ M) :=
  zcu (zxh hc ha hb) fun σ H Q ⟨μ, ρ, M, hE, hM, h⟩ => tT1 hE hM h fun k M1 H1 μ1 x1 hE1 hM1 h1 => by
    cases k with
    | true => exact ⟨μ1, ρ, M1, hE1, hM1, okW h1 x1⟩
    | false => exact ⟨μ1, ρ, M1, hE1, hM1, okW h1 x1⟩
theorem d_idx (ha : DE fa X a ga) (hb : DE fa X b gb) (hs : zjr b) : DE fa X (.Subscript a b pos) (fun ρ M => (ga ρ M).bind fun x M => (gb ρ M).bind fun y M => ofO M (zcp x y M)) :=
  zcu (pe_ix i_all ha hb hs) fun σ H Q ⟨μ, ρ, M, hE, hM, h⟩ => t2 hE hM h fun x y M2 v u H2 μ2 x2 hE2 hM2 r1 r2 h2 => by
    obtain ⟨d, e, q⟩ := zk4 h2
    exact ⟨μ2, M2, x, y, d, hM2, r1, r2, e, q.ext x2⟩
def DO (fa : Fa) (X : Cx) (e : Option PySem.Expr) (hp : Bool) (g : Env -> Mem -> Res D) : Prop := PO X e fun σ H Q => ∃ μ ρ M, zbv fa X.K μ H σ ρ /\ RelM fa X.K μ H M /\ okE (g ρ M) fun d M' => ∃ o, zcv hp d = true /\ zmr d = some o /\ ∀ H' μ', Ext μ H μ' H' -> RelM fa X.K μ' H' M' -> Q o H'
theorem z0n : DO fa X none false (fun _ M => .ok .non M) := fun pins s σ H Q I ⟨μ, ρ, M, hE, hM, o, _, e, k⟩ => by
  cases e
  exact zz2 pins s σ H Q I (k H μ .refl hM)
theorem z0m (ha : DE fa X a ga) : DO fa X (some a) true ga := fun pins s σ H Q I ⟨μ, ρ, M, hE, hM, h⟩ => zz1 ha pins s σ H Q I ⟨μ, ρ, M, hE, hM, za9 h fun d M' ⟨o, p, e, k⟩ v H' μ' x m r => by
  cases d with
  | int i => cases e; exact ⟨i, r, k H' μ' x m⟩
  | _ => cases p⟩
theorem part_of {hp : Bool} {d : D} (h : zcv hp d = true) : ∃ o, zmr d = some o := by
  cases hp <;> cases d <;> first | exact ⟨_, rfl⟩ | cases h
theorem d_slc (m hl hh : Bool) {lo hi : Option PySem.Expr} {gl gh : Env -> Mem -> Res D} {p2 : Pos} (ha : DE fa X a ga) (hlo : DO fa X lo hl gl) (hhi : DO fa X hi hh gh) : DE fa X (.Subscript a (.Slice lo hi none p2) pos)
    (fun ρ M => (ga ρ M).bind fun x M => (gl ρ M).bind fun l M => (gh ρ M).bind fun h M => if zcv hl l && zcv hh h then zb7 m x l h M else .bad) :=
  zcu (zxg (zzn (fa := fa) m) ha hlo hhi) fun σ H Q ⟨μ, ρ, M, hE, hM, h⟩ => t1 hE hM h fun x M1 v H1 μ1 x1 hE1 hM1 r1 h1 => by
    obtain ⟨l, M2, e2, h2⟩ := zbl h1
    obtain ⟨u, M3, e3, h3⟩ := zbl h2
    split at h3
    · next c =>
      rw [Bool.and_eq_true] at c
      obtain ⟨ol, el⟩ := part_of c.1
      obtain ⟨ou, eu⟩ := part_of c.2
      refine ⟨μ1, ρ, M1, hE1, hM1, ?_⟩
      rw [e2]
      refine ⟨ol, c.1, el, fun H2 μ2 x2 hM2 => ⟨μ2, ρ, M2, hE1.ext x2, hM2, ?_⟩⟩
      rw [e3]
      exact ⟨ou, c.2, eu, fun H3 μ3 x3 hM3 => ⟨μ3, M3, x, l, u, hM3, (r1.ext x2).ext x3, el, eu, okW h3 ((x1.trans x2).trans x3)⟩⟩
    · exact h3.elim
theorem da_nil : DA fa X [] (fun _ M => .ok [] M) := zvi zhv fun σ H Q ⟨μ, ρ, M, hE, hM, h⟩ => h [] H μ .refl hM rfl
theorem z0q {es : List PySem.Expr} {gs : Env -> Mem -> Res (List D)} (ha : DE fa X a ga) (hs : DA fa X es gs) (h0 : starEach (a :: es) X.env = (false, eval a X.env) :: starEach es X.env) :
    DA fa X (a :: es) (fun ρ M => (ga ρ M).bind fun x M => (gs ρ M).bind fun xs M => .ok (x :: xs) M) :=
  zvi (ze3 ha hs h0) fun σ H Q ⟨μ, ρ, M, hE, hM, h⟩ => t1 hE hM h fun x M1 v H1 μ1 x1 hE1 hM1 r1 h1 => tA1 hE1 hM1 h1 fun xs M2 vs H2 μ2 x2 hE2 hM2 r2 h2 => h2 (v :: vs) H2 μ2 (x1.trans x2) hM2 ⟨v, vs, rfl, r1.ext x2, r2⟩
theorem d_tup {es : List PySem.Expr} {gs : Env -> Mem -> Res (List D)} {k : Nat} (hs : DA fa X es gs) : DE fa X (.Tuple es k pos) (fun ρ M => (gs ρ M).bind zj4) :=
  zcu (pe_tup hs) fun σ H Q ⟨μ, ρ, M, hE, hM, h⟩ => tA1 hE hM h fun xs M1 vs H1 μ1 x1 hE1 hM1 r1 h1 => by
    unfold zj4 at h1
    split at h1
    · next c => exact ⟨by rw [r1.length, <- zfr]; exact c, zhd hM1 r1 (zbz.ext h1 x1)⟩
    · exact h1.elim
theorem d_lst (m : Bool) {es : List PySem.Expr} {gs : Env -> Mem -> Res (List D)} (hs : DA fa X es gs) : DE fa X (.List es pos) (fun ρ M => (gs ρ M).bind (zbn m)) :=
  zcu (pe_lst hs) fun σ H Q ⟨μ, ρ, M, hE, hM, h⟩ => tA1 hE hM h fun xs M1 vs H1 μ1 x1 hE1 hM1 r1 h1 => by
    obtain ⟨c, k⟩ := zgp hM1 r1 (okW h1 x1)
    exact ⟨by rw [r1.length, <- zfr]; exact c, k⟩
end
end LD
namespace LD
open PySem PySem.Spec PyProof.Rows L2
def spD (fa : Fa) (K : PySem.W.Frag) (k : Nat) (call : List D -> Mem -> Res D) : Sp := fun vs H Q E => vs.length = k /\ ∃ μ M ds, RelM fa K μ H M /\ za6 fa K μ H ds vs /\ okE (call ds M) (zbz fa K μ H Q)
def zhc (fa : Fa) (P : Program) (w : World) (K : PySem.W.Frag) (mg : Str -> Option Value) (base : Heap) (n : Nat) (f : Nat) (call : List D -> Mem -> Res D) : Prop :=
  (∀ ds M, call ds M = .bad) \/ ∃ (ad : Addr) (fd : FuncData) (ps : List Str), fa f = some ad /\ PySem.W.keepIn K (.ref ad) = true /\ Binds K fd ps [] /\ (∀ ds M, ds.length ≠ ps.length -> call ds M = .bad) /\ zh7 P w K mg base CX0 n ad fd ps (spD fa K ps.length call)
section
variable {fa : Fa} {X : Cx} {a b d : PySem.Expr} {ga gb gd : Env -> Mem -> Res D} {pos p : Pos} {es : List PySem.Expr} {gs : Env -> Mem -> Res (List D)} {n : Nat}
theorem zwj {call : List D -> Mem -> Res D} {P : D -> Mem -> Prop} {r : Res (List D)} (hb : ∀ ds M, call ds M = .bad) (h : okE (r.bind fun ds M => call ds M) P) : False := by
  obtain ⟨ds, M, _, q⟩ := zbl h
  rw [hb] at q
  exact q
theorem zos {call : List D -> Mem -> Res D} {k : Nat} {σ : L2.St} {H : Hp} {Q : VK} {μ : Mu} {ρ : Env} {M : Mem} (hE : zbv fa X.K μ H σ ρ) (hM : RelM fa X.K μ H M) (h : okE ((gs ρ M).bind fun ds M => call ds M) (zbz fa X.K μ H Q))
    (hk : ∀ ds M1, ds.length ≠ k -> call ds M1 = .bad) : tCall (spD fa X.K k call) [] E0 (tA fa X.K gs) σ H Q := by
  refine tA1 hE hM h fun ds M1 vs H1 μ1 x1 hE1 hM1 r1 h1 => ?_
  rw [List.append_nil]
  refine ⟨?_, μ1, M1, ds, hM1, r1, okW h1 x1⟩
  rw [r1.length]
  by_cases hl : ds.length = k
  · exact hl
  · rw [hk ds M1 hl] at h1; exact h1.elim
theorem d_call {f : Nat} {x : Str} {call : List D -> Mem -> Res D} (C : zhc fa X.prog X.w X.K X.mg X.base n f call) (hr : zbe n X.A) (hg : Gl X x) (hm : ∀ ad, fa f = some ad -> X.mg x = some (.ref ad)) (hs : DA fa X (a :: es) gs)
    (hdb : (x == ("__debug__" : Str)) = false) (he : starEach (a :: es) X.env = (false, eval a X.env) :: starEach es X.env) (hpl : (backTo pos (starEach es X.env)).any (·.1) = false) :
    DE fa X (.Call (.Name x p) (a :: es) [] pos) (fun ρ M => (gs ρ M).bind fun ds M => call ds M) := by
  rcases C with hb | ⟨ad, fd, ps, h1, h2, h3, h4, F⟩
  · exact fun pins s σ H Q I ⟨μ, ρ, M, hE, hM, h⟩ => (zwj hb h).elim
  · exact zcu (zz6 F hr hg (hm ad h1) h2 h3 .nil pass0 hs hdb he hpl) fun σ H Q ⟨μ, ρ, M, hE, hM, h⟩ => zos hE hM h h4
theorem z0r {i : Nat} {x : Str} {call : Nat -> List D -> Mem -> Res D} (C : ∀ f, zhc fa X.prog X.w X.K X.mg X.base n f (call f)) (hr : zbe n X.A) (hN : X.N[i]? = some x) (hv : Vis X.env.scope x) (hs : DA fa X (a :: es) gs)
    (hd : (x == ("__debug__" : Str)) = false) (hcd : (x == ("__classdict__" : Str)) = false) (he : starEach (a :: es) X.env = (false, eval a X.env) :: starEach es X.env) (hpl : (backTo pos (starEach es X.env)).any (·.1) = false) :
    DE fa X (.Call (.Name x p) (a :: es) [] pos) (fun ρ M => match ρ[i]?.getD none with | some (.fn f) => (gs ρ M).bind fun ds M => call f ds M | _ => .bad) := by
  intro pins s σ H Q I ⟨μ, ρ, M, hE, hM, h⟩
  dsimp only at h
  cases e : ρ[i]?.getD none with
  | none => rw [e] at h; exact h.elim
  | some df =>
    cases df with
    | fn f =>
      rw [e] at h
      simp only at h
      have e' : ρ[i]? = some (some (.fn f)) := by
        cases q : ρ[i]? with
        | none => rw [q] at e; cases e
        | some o => rw [q] at e; simp at e; rw [e]
      obtain ⟨v, hv1, hv2⟩ := hE.at' i _ e'
      obtain ⟨ad, rfl, had⟩ := hv2
      rcases C f with hb | ⟨ad', fd, ps, h1, h2, h3, h4, F⟩
      · exact (zwj hb h).elim
      · rw [had] at h1; cases h1
        refine wpAny_Call_Name_kw (thn (zqe hN hv hd hcd pins s σ H (fun v H' => v = .ref ad /\ H' = H) I ⟨_, hv1, rfl, rfl⟩) fun u s1 ⟨v, H1, I1, r1, e1, e2⟩ => ?_)
        subst e1 e2
        obtain rfl : u = Value.ref ad := r1
        refine PySem.W.callWith_K (h₀ := X.base) I1.ok.mod.kin h2 (thn (hs pos pins s1 σ H1 _ I1 (zos hE hM h h4)) fun us s2 ⟨vs, H2, I2, r, q⟩ => ⟨I2.kIn, ?_⟩) he hpl
        exact zu5 F hr h3 .nil pass0 I2 r q
    | _ => rw [e] at h; exact h.elim
theorem d_blt (f : Blt) {x : Str} {id : String} (hc : zdr X (.builtin id) (rBlt fa X.K f)) (hg : Gl X x) (hm : X.mg x = none) (hv : bootBuiltins x = some (.builtin id)) (hs : DA fa X (a :: es) gs) (hn : x ≠ "__name__") (hdb : (x == ("__debug__" : Str)) = false)
    (he : starEach (a :: es) X.env = (false, eval a X.env) :: starEach es X.env) (hpl : (backTo pos (starEach es X.env)).any (·.1) = false) : DE fa X (.Call (.Name x p) (a :: es) [] pos) (fun ρ M => (gs ρ M).bind fun ds M => zex f ds M) :=
  zcu (zqf hc hg hm hv hs hn hdb he hpl) fun σ H Q ⟨μ, ρ, M, hE, hM, h⟩ => tA1 hE hM h fun ds M1 vs H1 μ1 x1 hE1 hM1 r1 h1 => ⟨μ1, M1, ds, hM1, r1, okW h1 x1⟩
theorem zv8 (f : Blt) {x : Str} {T : String} (hc : zdr X (.type T) (rBlt fa X.K f)) (hg : Gl X x) (hm : X.mg x = none) (hv : bootBuiltins x = some (.type T)) (hs : DA fa X (a :: es) gs) (hn : x ≠ "__name__") (hdb : (x == ("__debug__" : Str)) = false)
    (he : starEach (a :: es) X.env = (false, eval a X.env) :: starEach es X.env) (hpl : (backTo pos (starEach es X.env)).any (·.1) = false) : DE fa X (.Call (.Name x p) (a :: es) [] pos) (fun ρ M => (gs ρ M).bind fun ds M => zex f ds M) :=
  zcu (zon hc hg hm hv hs hn hdb he hpl) fun σ H Q ⟨μ, ρ, M, hE, hM, h⟩ => tA1 hE hM h fun ds M1 vs H1 μ1 x1 hE1 hM1 r1 h1 => ⟨μ1, M1, ds, hM1, r1, okW h1 x1⟩
theorem d_inst (t : Ty) (ht : ∀ c, t ≠ .own c) {x : Str} {p1 p2 : Pos} (ha : DE fa X a ga) (hg : Gl X "isinstance") (hm : X.mg "isinstance" = none) (hv : bootBuiltins "isinstance" = some (.builtin "isinstance")) (hgt : Gl X x) (hmt : X.mg x = none) (hvt : bootBuiltins x = some (.type (tyName t)))
    (hn : x ≠ "__name__") (hdb : (x == ("__debug__" : Str)) = false)
    (he : starEach [a, .Name x p1] X.env = (false, eval a X.env) :: starEach [.Name x p1] X.env) : DE fa X (.Call (.Name "isinstance" p2) [a, .Name x p1] [] pos) (fun ρ M => (ga ρ M).bind fun x M => (ofO M (zfk t x)).bind fun b M => .ok (.bl b) M) :=
  zcu (zqf (f_inst (fa := fa) t ht) hg hm hv (ze3 ha (ze3 (zz7 hgt hmt hvt (v := .ty (tyName t)) rfl hn hdb) zhv (by rfl)) he) (by decide) (by decide) he (by rfl)) fun σ H Q ⟨μ, ρ, M, hE, hM, h⟩ => t1 hE hM h fun x M1 v H1 μ1 x1 hE1 hM1 r1 h1 => by
    obtain ⟨b, e, q⟩ := zmt h1
    exact ⟨μ1, M1, x, v, b, rfl, hM1, r1, e, zbw (v := .bl b) hM1 (q.ext x1) rfl⟩
def gT (fa : Fa) (K : PySem.W.Frag) (t : Tgt) : TG := fun v σ H Q => ∃ μ ρ M d ρ1, zbv fa K μ H σ ρ /\ RelM fa K μ H M /\ Rep fa K μ H d v /\ zc1 t d ρ = some ρ1 /\ ∀ σ1, zbv fa K μ H σ1 ρ1 -> Q σ1 H
theorem zve {tg : PySem.Expr} {g g' : TG} (h : PG X tg g) (i : ∀ v σ H Q, g' v σ H Q -> g v σ H Q) : PG X tg g' := fun pins s σ H v u Q I r q => h pins s σ H v u Q I r (i v σ H Q q)
theorem zsi {tg : List PySem.Expr} {g g' : TGs} (h : PGs X tg g) (i : ∀ v σ H Q, g' v σ H Q -> g v σ H Q) : PGs X tg g' := fun pins s σ H v u Q I r q => h pins s σ H v u Q I r (i v σ H Q q)
theorem zao {i : Nat} {x : Str} (hN : X.N.Nodup) (hi : X.N[i]? = some x) (hx : Loc X.env.scope x) (hf : X.fn x = true \/ X.env.scope.names.lookup x = some .local) : PG X (.Name x pos) (gT fa X.K (.one i)) :=
  zve (zsj hN hi hx hf) fun v σ H Q ⟨μ, ρ, M, d, ρ1, hE, hM, r, e, k⟩ => by
    have e' : ρ.set i (some d) = ρ1 := Option.some.inj e
    subst e'
    exact k _ (hE.set r)
def gNames (fa : Fa) (K : PySem.W.Frag) (l : List Nat) : TGs := fun vs σ H Q => ∃ μ ρ M ds ρ1, zbv fa K μ H σ ρ /\ RelM fa K μ H M /\ za6 fa K μ H ds vs /\ zct l ds ρ = some ρ1 /\ ∀ σ1, zbv fa K μ H σ1 ρ1 -> Q σ1 H
inductive zkf (X : Cx) : List Nat -> List PySem.Expr -> Prop
  | nil : zkf X [] []
  | cons {i : Nat} {x : Str} {p : Pos} {l : List Nat} {ns : List PySem.Expr} (hi : X.N[i]? = some x) (hx : Loc X.env.scope x) (hf : X.fn x = true \/ X.env.scope.names.lookup x = some .local) (r : zkf X l ns) : zkf X (i :: l) (.Name x p :: ns)
theorem zkf.each {l : List Nat} {ns : List PySem.Expr} (h : zkf X l ns) : (assignEach ns X.env).length = l.length /\ (assignEach ns X.env).findIdx? (·.1) = none := by
  induction h with
  | nil => exact ⟨rfl, rfl⟩
  | cons hi hx hf r ih =>
    rename_i i x p l ns
    have e : assignEach (.Name x p :: ns) X.env = (false, assign (.Name x p) X.env) :: assignEach ns X.env := rfl
    rw [e]
    refine ⟨by simp [ih.1], ?_⟩
    rw [List.findIdx?_cons]
    simp [ih.2]
theorem zya (hN : X.N.Nodup) {l : List Nat} {ns : List PySem.Expr} (h : zkf X l ns) : PGs X ns (gNames fa X.K l) := by
  induction h with
  | nil =>
    refine zsi zz4 fun vs σ H Q ⟨μ, ρ, M, ds, ρ1, hE, hM, r, e, k⟩ => ?_
    cases ds with
    | nil =>
      obtain rfl : vs = [] := r
      have e' : ρ = ρ1 := Option.some.inj e
      subst e'
      exact ⟨rfl, k _ hE⟩
    | cons => cases e
  | cons hi hx hf r ih =>
    refine zsi (zxf (zsj hN hi hx hf) ih (by rfl)) fun vs σ H Q ⟨μ, ρ, M, ds, ρ1, hE, hM, r, e, k⟩ => ?_
    cases ds with
    | nil => cases e
    | cons d ds =>
      obtain ⟨v, vr, rfl, r1, r2⟩ := r
      exact ⟨v, vr, rfl, μ, _, M, ds, ρ1, hE.set r1, hM, r2, e, k⟩
theorem zkg : ∀ {l : List Nat} {ds : List D} {ρ ρ1 : Env}, zct l ds ρ = some ρ1 -> ds.length = l.length
  | [], [], _, _, _ => rfl
  | _ :: _, [], _, _, h => by cases h
  | [], _ :: _, _, _, h => by cases h
  | _ :: l, _ :: ds, _, _, h => by
    have := zkg (l := l) (ds := ds) h
    simp [this]
theorem zck (hc : X.calm = true) (hN : X.N.Nodup) {l : List Nat} {ns : List PySem.Expr} {k : Nat} (h : zkf X l ns) : PG X (.Tuple ns k pos) (gT fa X.K (.tup l)) :=
  zve (pg_tup (n := l.length) hc (zya (fa := fa) hN h) h.each.1 h.each.2) fun v σ H Q ⟨μ, ρ, M, d, ρ1, hE, hM, r, e, k⟩ => by
    cases d with
    | tup ds =>
      obtain ⟨a, vs, rfl, hq, r⟩ := r
      exact ⟨a, vs, rfl, hq, by rw [r.length]; exact zkg e, μ, ρ, M, ds, ρ1, hE, hM, r, e, k⟩
    | _ => cases e
end
end LD
namespace LD
open PySem PySem.Spec PyProof.Rows L2
section
variable {fa : Fa} {X : Cx} {a b d : PySem.Expr} {ga gb gd : Env -> Mem -> Res D} {pos p : Pos} {es : List PySem.Expr} {gs : Env -> Mem -> Res (List D)} {n : Nat}
theorem ds_asg {tg : PySem.Expr} {t : Tgt} (ha : DE fa X a ga) (hg : PG X tg (gT fa X.K t)) (hs : swapsWithSole [tg] a pos.line X.env = pure false) (hw : swappedStores [tg] a X.env = pure none) (h1 : (assignEach [tg] X.env).map (·.2) = [assign tg X.env]) :
    DS fa X (.Assign [tg] a pos) (fun ρ M => (ga ρ M).bind fun x M => (ofO M (zc1 t x ρ)).bind fun ρ1 M => .ok (.next ρ1) M) :=
  zg2 (zvb ha hg hs hw h1) fun D σ H ⟨μ, ρ, M, hE, hM, h⟩ => t1 hE hM h fun x M1 v H1 μ1 x1 hE1 hM1 r1 h1 => by
    obtain ⟨ρ1, M2, e, q⟩ := zbl h1
    cases eb : zc1 t x ρ with
    | none => rw [eb] at e; cases e
    | some ρ2 =>
      rw [eb] at e
      cases e
      exact ⟨μ1, ρ, M1, x, ρ1, hE1, hM1, r1, eb, fun σ1 hE2 => q σ1 H1 μ1 x1 hE2 hM1⟩
theorem zod {D' : Ends} {μ : Mu} {H : Hp} {σ : L2.St} {ρ : Env} {M : Mem} {k : Nat} {ad : Addr} {ws : List V} {ds : List D} (hE : zbv fa X.K μ H σ ρ) (hM : RelM fa X.K μ H M) (hk : μ.pub k = some ad) (r : za6 fa X.K μ H ds ws)
    (q : ∀ σ' H' μ', Ext μ H μ' H' -> zbv fa X.K μ' H' σ' ρ -> RelM fa X.K μ' H' (M.set k ds) -> D'.nx σ' H') : D'.nx σ (upd H ad (.lst ws)) :=
  q σ _ μ (Ext.write (vs := ws) hM hk) (hE.ext (Ext.write (vs := ws) hM hk)) (hM.write hk r)
theorem ds_put (ha : DE fa X a ga) (hb : DE fa X b gb) (hd : DE fa X d gd) {p2 : Pos}
    (h0 : ∀ v, assign (.Subscript a b p2) X.env v = (do
      let ov <- holding [v] (eval a X.env)
      let iv <- holding [v, ov] (eval b X.env)
      standAt p2
      holding [v, ov, iv] (setItem ov iv v)
      release [v, ov, iv] [])) (hs : swapsWithSole [.Subscript a b p2] d pos.line X.env = pure false) (hw : swappedStores [.Subscript a b p2] d X.env = pure none) (h1 : (assignEach [.Subscript a b p2] X.env).map (·.2) = [assign (.Subscript a b p2) X.env]) :
    DS fa X (.Assign [.Subscript a b p2] d pos) (fun ρ M => (gd ρ M).bind fun z M => (ga ρ M).bind fun x M => (gb ρ M).bind fun y M => match x, y with
      | .cell k, .int n => match M[k]? with
        | some ds => match ixN ds.length n with
          | some j => .ok (.next ρ) (M.set k (ds.set j z))
          | none => .bad
        | none => .bad
      | _, _ => .bad) :=
  zg2 (zvb hd (pg_sub ha hb set_list h0) hs hw h1) fun D' σ H ⟨μ, ρ, M, hE, hM, h⟩ => t1 hE hM h fun z M1 v H1 μ1 x1 hE1 hM1 r1 h1 => t2 hE1 hM1 h1 fun x y M2 vx vy H2 μ2 x2 hE2 hM2 rx ry h2 => by
    have key : ∀ k n, x = .cell k -> y = .int n -> rSetL vx vy v H2 fun H3 => D'.nx σ H3 := fun k n e1 e2 => by
      subst e1 e2
      dsimp only at h2
      cases e : M2[k]? with
      | none => rw [e] at h2; exact h2.elim
      | some ds =>
        rw [e] at h2
        dsimp only at h2
        cases ej : LD.ixN ds.length n with
        | none => rw [ej] at h2; exact h2.elim
        | some j =>
          rw [ej] at h2
          obtain ⟨ad, rfl, hk⟩ := rx
          obtain ⟨ad', ws, h3, h4, h5⟩ := hM2.at' k ds e
          rw [hk] at h3; cases h3
          have q : ∀ σ' H' μ', Ext μ H μ' H' -> zbv fa X.K μ' H' σ' ρ -> RelM fa X.K μ' H' (M2.set k (ds.set j z)) -> D'.nx σ' H' := h2
          refine ⟨ad, ws, n, j, rfl, ry, h4, by rw [h5.length]; exact ej, zod hE2 hM2 hk (h5.set j (r1.ext x2)) fun σ' H' μ' x' e' m' => q σ' H' μ' ((x1.trans x2).trans x') e' m'⟩
    cases x with
    | cell k => cases y with
      | int n => exact key k n rfl rfl
      | _ => exact h2.elim
    | _ => exact h2.elim
theorem ds_app (ha : DE fa X a ga) (hd : DE fa X d gd) {apos cpos : Pos} (hbase : attributeBase a "append" X.env (eval a X.env) = eval a X.env) (hline : (apos.endLine == cpos.line) = true) (hs : starEach [d] X.env = [(false, eval d X.env)])
    (hsw : swapsWith (.Call (.Attribute a "append" apos) [d] [] cpos) none pos.line X.env = pure false) :
    DS fa X (.Expr (.Call (.Attribute a "append" apos) [d] [] cpos) pos) (fun ρ M => (ga ρ M).bind fun x M => (gd ρ M).bind fun z M => match x with
      | .cell k => match M[k]? with
        | some ds => if ds.length < sz then .ok (.next ρ) (M.set k (ds ++ [z])) else .bad
        | none => .bad
      | _ => .bad) :=
  zg2 (zsh (pe_bm PySem.F.plainAttrs_list PySem.F.slot_list_append PySem.F.type_list_append zoo ha (ze3 hd zhv hs) hbase (by rw [hs]; rfl) hline hs (by rfl)) hsw) fun D' σ H ⟨μ, ρ, M, hE, hM, h⟩ => by
    obtain ⟨x, M1, e1, h1⟩ := zbl h
    obtain ⟨z, M2, e2, h2⟩ := zbl h1
    cases x with
    | cell k =>
      dsimp only at h2
      cases e : M2[k]? with
      | none => rw [e] at h2; exact h2.elim
      | some ds =>
        rw [e] at h2
        dsimp only at h2
        split at h2
        · next hz =>
          have q : ∀ σ' H' μ', Ext μ H μ' H' -> zbv fa X.K μ' H' σ' ρ -> RelM fa X.K μ' H' (M2.set k (ds ++ [z])) -> D'.nx σ' H' := h2
          refine ⟨μ, ρ, M, hE, hM, ?_⟩
          rw [e1]
          intro vx H1 μ1 x1 hM1 rx
          obtain ⟨ad, rfl, hk⟩ := rx
          obtain ⟨ds1, ws1, _, hH1, _⟩ := hM1.mu_lt hk
          refine ⟨.inl ⟨rfl, ws1, SqL.of hH1⟩, μ1, ρ, M1, hE.ext x1, hM1, ?_⟩
          rw [e2]
          intro vz H2 μ2 x2 hM2 rz
          obtain ⟨ad', ws, h3, h4, h5⟩ := hM2.at' k ds e
          rw [x2.mu k ad hk] at h3; cases h3
          refine ⟨ad, ws, vz, rfl, rfl, h4, by rw [h5.length, <- zfr]; exact hz, ?_⟩
          exact zod ((hE.ext x1).ext x2) hM2 (x2.mu k ad hk) (h5.append (.one rz)) fun σ' H' μ' x' e' m' => q σ' H' μ' ((x1.trans x2).trans x') e' m'
        · exact h2.elim
    | _ => exact h2.elim
theorem ds_ex (ha : DE fa X a ga) (hs : swapsWith a none pos.line X.env = pure false) : DS fa X (.Expr a pos) (fun ρ M => (ga ρ M).bind fun _ M => .ok (.next ρ) M) :=
  zg2 (zsh ha hs) fun D' σ H ⟨μ, ρ, M, hE, hM, h⟩ => t1 hE hM h fun x M1 v H1 μ1 x1 hE1 hM1 r1 h1 => h1 σ H1 μ1 x1 hE1 hM1
theorem ds_ret (ha : DE fa X a ga) : DS fa X (.Return (some a) pos) (fun ρ M => (ga ρ M).bind fun x M => .ok (.ret x) M) :=
  zg2 (ps_ret ha) fun D' σ H ⟨μ, ρ, M, hE, hM, h⟩ => by
    obtain ⟨x, M1, e, q⟩ := zbl h
    refine ⟨μ, ρ, M, hE, hM, ?_⟩
    rw [e]; exact q
theorem ds_pass : DS fa X (.Pass pos) (fun ρ M => .ok (.next ρ) M) := zg2 zzz fun D' σ H ⟨μ, ρ, M, hE, hM, h⟩ => h σ H μ .refl hE hM
theorem ds_bad {st : PySem.Stmt} : DS fa X st (fun _ _ => .bad) := fun pins s σ H D' I ⟨μ, ρ, M, hE, hM, h⟩ => h.elim
theorem okF {r : Res Fl} {μ μ' : Mu} {H H' : Hp} {D' : Ends} (x : Ext μ H μ' H') (h : okE r fun fl M' => match fl with
    | .next ρ' => ∀ σ' H'' μ'', Ext μ H μ'' H'' -> zbv fa X.K μ'' H'' σ' ρ' -> RelM fa X.K μ'' H'' M' -> D'.nx σ' H''
    | .ret d => zbz fa X.K μ H D'.rt d M') : okE r fun fl M' => match fl with
    | .next ρ' => ∀ σ' H'' μ'', Ext μ' H' μ'' H'' -> zbv fa X.K μ'' H'' σ' ρ' -> RelM fa X.K μ'' H'' M' -> D'.nx σ' H''
    | .ret d => zbz fa X.K μ' H' D'.rt d M' := za9 h fun fl M q => by
  cases fl with
  | next ρ' => exact fun σ' H'' μ'' y e m => q σ' H'' μ'' (x.trans y) e m
  | ret d => exact zbz.ext q x
theorem ds_ite {c : PySem.Expr} {gc : Env -> Mem -> Res Bool} {st sf : List PySem.Stmt} {gt gf : Env -> Mem -> Res Fl} (hc : DT fa X c gc) (ht : DSs fa X st gt) (hf : DSs fa X sf gf) : DS fa X (.If c st sf pos) (fun ρ M => (gc ρ M).bind fun k M => if k then gt ρ M else gf ρ M) :=
  zg2 (ps_if hc ht hf) fun D' σ H ⟨μ, ρ, M, hE, hM, h⟩ => tT1 hE hM h fun k M1 H1 μ1 x1 hE1 hM1 h1 => by
    cases k with
    | true => exact ⟨μ1, ρ, M1, hE1, hM1, okF x1 h1⟩
    | false => exact ⟨μ1, ρ, M1, hE1, hM1, okF x1 h1⟩
theorem z0l : DSs fa X [] (fun ρ M => .ok (.next ρ) M) := zsg zzy fun D' σ H ⟨μ, ρ, M, hE, hM, h⟩ => h σ H μ .refl hE hM
theorem zx8 {st : PySem.Stmt} {ss : List PySem.Stmt} {g : Env -> Mem -> Res Fl} {g' : Env -> Mem -> Res Fl} (h1 : DS fa X st g) (h2 : DSs fa X ss g') : DSs fa X (st :: ss) (fun ρ M => (g ρ M).bind fun fl M => match fl with
    | .next ρ => g' ρ M
    | .ret d => .ok (.ret d) M) :=
  zsg (zxd h1 h2) fun D' σ H ⟨μ, ρ, M, hE, hM, h⟩ => by
    obtain ⟨fl, M1, e, q⟩ := zbl h
    refine ⟨μ, ρ, M, hE, hM, ?_⟩
    rw [e]
    cases fl with
    | next ρ1 => exact fun σ1 H1 μ1 x1 hE1 hM1 => ⟨μ1, ρ1, M1, hE1, hM1, okF x1 q⟩
    | ret d => exact q
end
end LD
namespace LD
open PySem PySem.Spec PyProof.Rows L2
def ze7 (fa : Fa) (K : PySem.W.Frag) (μ0 : Mu) (H0 : Hp) (w : Walk) (J : It) : Prop :=
  ∀ (μ : Mu) (H : Hp) (M : Mem) (ds : List D), ExtW μ0 H0 μ H -> RelM fa K μ H M -> w M = some ds -> (∀ (i : Nat) (d : D), ds[i]? = some d -> J.go i H /\ ∀ x H', J.yld i H x H' -> Ext μ H μ H' /\ RelM fa K μ H' M /\ Rep fa K μ H' d x) /\ ∀ i, ds.length ≤ i -> J.stop i H
def tI (fa : Fa) (K : PySem.W.Frag) (g : Env -> Mem -> Res Walk) : TI := fun σ H R => ∃ μ ρ M, zbv fa K μ H σ ρ /\ RelM fa K μ H M /\ okE (g ρ M) fun w M' => ∀ J H' μ', Ext μ H μ' H' -> RelM fa K μ' H' M' -> ze7 fa K μ' H' w J -> R J H'
abbrev DI (fa : Fa) (X : Cx) (tg iter : PySem.Expr) (g : Env -> Mem -> Res Walk) : Prop := PI X tg iter (tI fa X.K g)
theorem zub {fa : Fa} {K : PySem.W.Frag} {μ0 μ1 : Mu} {H0 H1 : Hp} {w : Walk} {J : It} (h : ze7 fa K μ0 H0 w J) (x : ExtW μ0 H0 μ1 H1) : ze7 fa K μ1 H1 w J := fun μ H M ds y hM e => h μ H M ds (x.trans y) hM e
section
variable {fa : Fa} {X : Cx} {tg a b d : PySem.Expr} {ga gb gd : Env -> Mem -> Res D} {pos p : Pos} {es : List PySem.Expr} {n : Nat}
theorem zuc {μ0 : Mu} {H0 : Hp} {dd : D} {ad : Addr} (h : Rep fa X.K μ0 H0 dd (.ref ad)) : ze7 fa X.K μ0 H0 (fun M => rdD M dd) (Itl X.K ad) := fun μ H M ds x hM e => by
  obtain ⟨ad', vs, ea, s, r⟩ := zcc hM (Rep.extW x h) e
  cases ea
  refine ⟨fun i d hd => ?_, fun i hi => ⟨vs, s, by rw [r.length]; exact hi⟩⟩
  obtain ⟨v, hv, rv⟩ := r.get hd
  refine ⟨⟨vs, v, s, hv⟩, fun y H' ⟨e, hy⟩ => ?_⟩
  subst e
  have := hy vs s
  rw [hv] at this; cases this
  exact ⟨.refl, hM, rv⟩
theorem zwq {μ0 : Mu} {H0 : Hp} {ds : List D} {ad : Addr} (h : Rep fa X.K μ0 H0 (.tup ds) (.ref ad)) : ze7 fa X.K μ0 H0 (fun _ => some ds) (Itt X.K ad) := fun μ H M ds' x hM e' => by
  cases e'
  obtain ⟨ad', vs, e, s, r⟩ := Rep.extW x h
  cases e
  refine ⟨fun i d hd => ?_, fun i hi => ⟨vs, s, by rw [r.length]; exact hi⟩⟩
  obtain ⟨v, hv, rv⟩ := r.get hd
  refine ⟨⟨vs, v, s, hv⟩, fun y H' ⟨e, hy⟩ => ?_⟩
  subst e
  have := hy vs s
  rw [hv] at this; cases this
  exact ⟨.refl, hM, rv⟩
theorem zwr {μ0 : Mu} {H0 : Hp} (lo : Int) (n : Nat) : ze7 fa X.K μ0 H0 (fun _ => some ((List.range n).map fun (k : Nat) => D.int (lo + (k : Int)))) (Itr lo n) := fun μ H M ds x hM e => by
  cases e
  refine ⟨fun i d hd => ?_, fun i hi => (show n ≤ i by simpa using hi)⟩
  rw [List.getElem?_map] at hd
  by_cases hi : i < n
  · rw [List.getElem?_range hi] at hd
    have e : D.int (lo + (i : Int)) = d := Option.some.inj hd
    subst e
    refine ⟨hi, fun y H' ⟨e1, e2⟩ => ?_⟩
    subst e1 e2
    exact ⟨.refl, hM, rfl⟩
  · rw [List.getElem?_eq_none (by simpa using hi)] at hd; cases hd
def zfl (ga : Env -> Mem -> Res D) : Env -> Mem -> Res Walk := fun ρ M => (ga ρ M).bind fun x M => match x with
    | .lst ds => .ok (fun _ => some ds) M
    | .tup ds => .ok (fun _ => some ds) M
    | .frz ds => .ok (fun _ => some ds) M
    | .cell k => .ok (fun M => M[k]?) M
    | _ => .bad
theorem zf3 (ha : DE fa X a ga) : DI fa X tg a (zfl ga) := fun pins s σ H R I ⟨μ, ρ, M, hE, hM, h⟩ => by
  obtain ⟨x, M1, e, q⟩ := zbl h
  have lst : (∀ μ' H', RelM fa X.K μ' H' M1 -> ∀ v, Rep fa X.K μ' H' x v -> ∃ ds, rdD M1 x = some ds) -> (∀ J H' μ', Ext μ H μ' H' -> RelM fa X.K μ' H' M1 -> ze7 fa X.K μ' H' (fun M => rdD M x) J -> R J H') ->
      wpAny (model X.prog X.w) X.A (eval a X.env) (fun v s1 => wpAny (model X.prog X.w) X.A (pyIter v) (PIE X pins σ tg R) X.xe s1) X.xe s := fun hx q => by
    refine zz3 ha pins s σ H R I ⟨μ, ρ, M, hE, hM, ?_⟩
    rw [e]
    intro v H1 μ1 x1 m1 r1
    obtain ⟨ds, er⟩ := hx μ1 H1 m1 v r1
    obtain ⟨ad, vs, rfl, s1, r⟩ := zcc m1 r1 er
    exact ⟨ad, rfl, ⟨vs, s1⟩, q _ H1 μ1 x1 m1 (zuc r1)⟩
  cases x with
  | lst ds => exact lst (fun _ _ _ _ _ => ⟨ds, rfl⟩) q
  | frz ds => exact lst (fun _ _ _ _ _ => ⟨ds, rfl⟩) q
  | tup ds =>
    refine pi_tup ha pins s σ H R I ⟨μ, ρ, M, hE, hM, ?_⟩
    rw [e]
    intro v H1 μ1 x1 m1 r1
    obtain ⟨ad, vs, rfl, s1, r⟩ := id r1
    exact ⟨ad, rfl, ⟨vs, s1⟩, q _ H1 μ1 x1 m1 (zwq r1)⟩
  | cell k => exact lst (fun μ' H' m' v ⟨ad, _, hk⟩ => let ⟨ds, _, e, _⟩ := m'.mu_lt hk; ⟨ds, e⟩) q
  | _ => exact q.elim
def zc0 (ga : Env -> Mem -> Res D) : Env -> Mem -> Res Walk := fun ρ M => (ga ρ M).bind fun x M => match x with
    | .int n => if -(2 ^ 62) ≤ n /\ n < 2 ^ 62 then .ok (fun _ => some ((List.range n.toNat).map fun (k : Nat) => D.int (k : Int))) M else .bad
    | _ => .bad
theorem zdn (ha : DE fa X a ga) (hg : Gl X "range") (hm : X.mg "range" = none) (hs : starEach [a] X.env = [(false, eval a X.env)]) : DI fa X tg (.Call (.Name "range" p) [a] [] pos) (zc0 ga) := fun pins s σ H R I ⟨μ, ρ, M, hE, hM, h⟩ => by
  refine zvd hg hm (ze3 ha zhv hs) hs pins s σ H R I ?_
  refine t1 hE hM h fun x M1 v H1 μ1 x1 hE1 hM1 r1 h1 => ?_
  cases x with
  | int n =>
    dsimp only at h1
    split at h1
    · next c =>
      obtain rfl : v = .int n := r1
      refine ⟨n, rfl, c.1, c.2, h1 _ H1 μ1 x1 hM1 ?_⟩
      have := zwr (fa := fa) (X := X) (μ0 := μ1) (H0 := H1) 0 n.toNat
      simpa using this
    · exact h1.elim
  | _ => exact h1.elim
def zgv (t : Tgt) (gb : Env -> Mem -> Res Fl) : Fl -> D -> Mem -> Res Fl := fun fl d M => match fl with
  | .ret d => .ok (.ret d) M
  | .next ρ => (ofO M (zc1 t d ρ)).bind fun ρ1 M => gb ρ1 M
theorem zqx {t : Tgt} {gb : Env -> Mem -> Res Fl} {d : D} {w : Walk} {P : Fl -> Mem -> Prop} : ∀ (n i : Nat) (M : Mem), okE (zfj (zgv t gb) w n i (.ret d) M) P -> P (.ret d) M
  | 0, _, _, h => h.elim
  | n + 1, i, M, h => by
    unfold zfj at h
    cases e : w M with
    | none => rw [e] at h; exact h.elim
    | some ds =>
      rw [e] at h
      dsimp only at h
      cases e2 : ds[i]? with
      | none => rw [e2] at h; exact h
      | some d' => rw [e2] at h; exact zqx n (i + 1) M h
theorem ds_for {t : Tgt} {body : List PySem.Stmt} {gw : Env -> Mem -> Res Walk} {gb : Env -> Mem -> Res Fl} (hp : PassesOwn (model X.prog X.w) X.A X.env X.xe) (hc : X.calm = true) (hi : DI fa X tg a gw) (hg : PG X tg (gT fa X.K t)) (hb : DSs fa X body gb)
    (hs : ∀ x, foldedSetIterable a X.env x = pure x) : DS fa X (.For tg a body [] pos) (fun ρ M => (gw ρ M).bind fun w M => zdu (zgv t gb) w (.next ρ) M) :=
  zg2 (ps_for hp hc hi hg hb hs) fun D' σ H ⟨μ, ρ, M, hE, hM, h⟩ => by
    obtain ⟨w, M1, e, q⟩ := zbl h
    refine ⟨μ, ρ, M, hE, hM, ?_⟩
    rw [e]
    intro J H1 μ1 x1 hM1 wk
    have hE1 := hE.ext x1
    generalize hF : (fun (fl : Fl) (M' : Mem) => match fl with
      | .next ρ' => ∀ σ' H'' μ'', Ext μ H μ'' H'' -> zbv fa X.K μ'' H'' σ' ρ' -> RelM fa X.K μ'' H'' M' -> D'.nx σ' H''
      | .ret d => zbz fa X.K μ H D'.rt d M') = Fn at q
    have hFn : ∀ ρ' M', Fn (.next ρ') M' -> ∀ σ' H'' μ'', Ext μ H μ'' H'' -> zbv fa X.K μ'' H'' σ' ρ' -> RelM fa X.K μ'' H'' M' -> D'.nx σ' H'' := fun ρ' M' z => by rw [<- hF] at z; exact z
    have hFr : ∀ d M', Fn (.ret d) M' -> zbz fa X.K μ H D'.rt d M' := fun d M' z => by rw [<- hF] at z; exact z
    refine ⟨fun i m σ' H' => ∃ μ' ρ' M', Ext μ1 H1 μ' H' /\ zbv fa X.K μ' H' σ' ρ' /\ RelM fa X.K μ' H' M' /\ okE (zfj (zgv t gb) w m i (.next ρ') M') Fn,
      ⟨_, μ1, ρ, M1, .refl, hE1, hM1, q⟩, ?_⟩
    rintro i m σ2 H2 ⟨μ2, ρ2, M2, x2, hE2, hM2, q2⟩
    cases m with
    | zero => exact q2.elim
    | succ m =>
      unfold zfj at q2
      cases e2 : w M2 with
      | none => rw [e2] at q2; exact q2.elim
      | some ds =>
        rw [e2] at q2
        dsimp only at q2
        obtain ⟨go, stop⟩ := wk μ2 H2 M2 ds x2.toExtW hM2 e2
        cases ed : ds[i]? with
        | none =>
          rw [ed] at q2
          exact .inl ⟨stop i (List.getElem?_eq_none_iff.mp ed), hFn ρ2 M2 q2 σ2 H2 μ2 (x1.trans x2) hE2 hM2⟩
        | some d =>
          rw [ed] at q2
          obtain ⟨g1, g2⟩ := go i d ed
          refine .inr ⟨g1, fun σ' H' => ∃ μ' ρ' M', Ext μ1 H1 μ' H' /\ zbv fa X.K μ' H' σ' ρ' /\ RelM fa X.K μ' H' M' /\ okE (zfj (zgv t gb) w m (i + 1) (.next ρ') M') Fn, fun σ' H' z => ⟨m, by omega, z⟩, fun y H3 hy => ?_⟩
          obtain ⟨x3, hM3, r3⟩ := g2 y H3 hy
          have q2 : okE (((ofO M2 (zc1 t d ρ2)).bind fun ρ1 M => gb ρ1 M).bind (zfj (zgv t gb) w m (i + 1))) Fn := q2
          obtain ⟨fl, M4, e4, q4⟩ := zbl q2
          obtain ⟨ρ4, M5, e5, e6⟩ := zet e4
          cases eb : zc1 t d ρ2 with
          | none => rw [eb] at e5; cases e5
          | some ρ5 =>
            rw [eb] at e5
            cases e5
            refine ⟨μ2, ρ2, _, d, ρ4, hE2.ext x3, hM3, r3, eb, fun σ5 hE5 => ⟨μ2, ρ4, _, hE5, hM3, ?_⟩⟩
            rw [e6]
            cases fl with
            | next ρ6 => exact fun σ6 H6 μ6 x6 hE6 hM6 => ⟨μ6, ρ6, M4, (x2.trans x3).trans x6, hE6, hM6, q4⟩
            | ret d6 => exact (hFr d6 M4 (zqx m (i + 1) M4 q4)).ext ((x1.trans x2).trans x3)
end
end LD
namespace LD
open PySem PySem.Spec PyProof.Rows L2
abbrev FF : Value -> Shared -> Prop := fun _ _ => False
section
variable {prog : Program} {w : World} {A : Around} {s : Shared}
theorem zv9 {elt : PySem.Expr} {gens : List Comprehension} {scope : Scope} {pos p : Pos} {k : Nat} {it acc : Value} {env : PySem.Env} {R : Result -> Shared -> Prop} {target : PySem.Expr} {body : Sem Unit}
    (heq : compTurn (.ListComp elt gens scope pos) k it acc env = (standAt p >>= fun _ => pyNext it >>= fun r => match r with
      | none => pure (.done .next)
      | some v => letOwnedTupleGo target it v >>= fun _ => assign target env v >>= fun _ => body >>= fun _ => again (.compLoop (.ListComp elt gens scope pos) k it acc env)))
    (I : Nat -> Shared -> Prop)
    (turn : ∀ n s, I n s -> wpAny (model prog w) A (pyNext it) (fun r s₁ => match r with
      | none => R (.ok .next) s₁
      | some v => wpAny (model prog w) A (letOwnedTupleGo target it v) (fun _ s₂ => wpAny (model prog w) A (assign target env v) (fun _ s₃ => wpAny (model prog w) A body (fun _ s₄ => ∃ m, m < n /\ I m s₄) FF s₃) FF s₂) FF s₁) FF s)
    (n : Nat) (h : I n s) : codeAny (model prog w) A (.compLoop (.ListComp elt gens scope pos) k it acc env) R s := by
  refine codeAny_loop rfl I (fun n s hI => ?_) n h
  show wpAny _ _ ((compTurn (.ListComp elt gens scope pos) k it acc env).onRaise (fun x => do noteFrame x env; theTreesLotGoes x)) _ _ s
  refine wpAny_noted ?_
  rw [heq]
  refine wpAny_noRaise ?_
  refine wpAny_bind (wpAny_standAt (wpAny_bind (thn (turn n s hI) fun r s₁ h₁ => ?_)))
  cases r with
  | none => exact wpAny_pure h₁
  | some v =>
    refine wpAny_bind (thn h₁ fun _ s₂ h₂ => ?_)
    exact wpAny_bind (thn h₂ fun _ s₃ h₃ => wpAny_bind (thn h₃ fun _ s₄ h₄ => wpAny_pure ⟨rfl, h₄⟩))
theorem zpq (elt target iter : PySem.Expr) (gs : List Comprehension) (scope : Scope) (pos : Pos) (it acc : Value) (env : PySem.Env) :
    compTurn (.ListComp elt [⟨target, iter, [], 0⟩] scope pos) 0 it acc env = (standAt iter.pos >>= fun _ => pyNext it >>= fun r => match r with
      | none => pure (.done .next)
      | some v => letOwnedTupleGo target it v >>= fun _ => assign target env v >>= fun _ => (eval elt env >>= fun x => call (.builtin "list.append") [acc, x] >>= fun _ => pure ()) >>= fun _ => again (.compLoop (.ListComp elt [⟨target, iter, [], 0⟩] scope pos) 0 it acc env)) := by rfl
theorem turn_if (elt target iter c : PySem.Expr) (scope : Scope) (pos : Pos) (it acc : Value) (env : PySem.Env) :
    compTurn (.ListComp elt [⟨target, iter, [c], 0⟩] scope pos) 0 it acc env = (standAt iter.pos >>= fun _ => pyNext it >>= fun r => match r with
      | none => pure (.done .next)
      | some v => letOwnedTupleGo target it v >>= fun _ => assign target env v >>= fun _ => (isTrue c env (eval c env) >>= fun ok => if ok = true then (eval elt env >>= fun x => call (.builtin "list.append") [acc, x] >>= fun _ => pure ()) else pure ()) >>= fun _ => again (.compLoop (.ListComp elt [⟨target, iter, [c], 0⟩] scope pos) 0 it acc env)) := by
  rw [compTurn_list]
  refine congrArg _ (funext fun _ => congrArg _ (funext fun r => ?_))
  cases r with
  | none => rfl
  | some v =>
    simp only [List.forIn_cons, List.forIn_nil, if_true, bind_assoc, pure_bind]
    refine congrArg _ (funext fun _ => congrArg _ (funext fun _ => congrArg _ (funext fun ok => ?_)))
    cases ok <;> simp
theorem zwu (elt target iter t2 i2 : PySem.Expr) (scope : Scope) (pos : Pos) (it acc : Value) (env : PySem.Env) :
    compTurn (.ListComp elt [⟨target, iter, [], 0⟩, ⟨t2, i2, [], 0⟩] scope pos) 0 it acc env = (standAt iter.pos >>= fun _ => pyNext it >>= fun r => match r with
      | none => pure (.done .next)
      | some v => letOwnedTupleGo target it v >>= fun _ => assign target env v >>= fun _ => (eval i2 env >>= fun x => standAt i2.pos >>= fun _ => foldedSetIterable i2 env x >>= fun x => holding [x] (pyIter x) >>= fun j => runOwn (.compStart (.ListComp elt [⟨target, iter, [], 0⟩, ⟨t2, i2, [], 0⟩] scope pos) 1 j acc env) env >>= fun _ => pure ()) >>= fun _ => again (.compLoop (.ListComp elt [⟨target, iter, [], 0⟩, ⟨t2, i2, [], 0⟩] scope pos) 0 it acc env)) := by
  unfold compTurn
  simp only [List.getElem?_cons_zero, bne_self_eq_false, Bool.false_eq_true, if_false]
  refine bind_congr fun _ => bind_congr fun r => ?_
  cases r with
  | none => rfl
  | some v => simp
theorem zwv (elt target iter t2 i2 : PySem.Expr) (scope : Scope) (pos : Pos) (it acc : Value) (env : PySem.Env) :
    compTurn (.ListComp elt [⟨target, iter, [], 0⟩, ⟨t2, i2, [], 0⟩] scope pos) 1 it acc env = (standAt i2.pos >>= fun _ => pyNext it >>= fun r => match r with
      | none => pure (.done .next)
      | some v => letOwnedTupleGo t2 it v >>= fun _ => assign t2 env v >>= fun _ => (eval elt env >>= fun x => call (.builtin "list.append") [acc, x] >>= fun _ => pure ()) >>= fun _ => again (.compLoop (.ListComp elt [⟨target, iter, [], 0⟩, ⟨t2, i2, [], 0⟩] scope pos) 1 it acc env)) := by
  rfl
theorem zj7 (env : PySem.Env) : ∀ (ns : List (Str × NameKind)) (cs : List (Str × Addr)), (∀ y ∈ ns, y.2 = .free -> ∃ c, env.cells.lookup y.1 = some c) -> (∀ x c, cs.lookup x = some c -> env.cells.lookup x = some c) ->
    ∃ cl, (forIn ns cs fun (y : Str × NameKind) (r : List (Str × Addr)) => if (y.2 == NameKind.free) = true then cellOf env y.1 >>= fun a => pure (ForInStep.yield ((y.1, a) :: r)) else pure (ForInStep.yield r) : Sem _) = pure cl /\
      (∀ x c, cl.lookup x = some c -> env.cells.lookup x = some c) /\ (∀ x c, cs.lookup x = some c -> ∃ c', cl.lookup x = some c') /\ ∀ y ∈ ns, y.2 = .free -> ∃ c, cl.lookup y.1 = some c
  | [], cs, _, h2 => ⟨cs, by simp, h2, fun x c e => ⟨c, e⟩, fun y hy => nomatch hy⟩
  | (n, k) :: ns, cs, h1, h2 => by
    by_cases hk : k = .free
    · subst hk
      obtain ⟨a, ha⟩ := h1 (n, .free) List.mem_cons_self rfl
      have lk : ∀ x c, ((n, a) :: cs).lookup x = some c -> env.cells.lookup x = some c := fun x c e => by
        rw [List.lookup_cons] at e
        split at e
        · next q => cases e; rw [eq_of_beq q]; exact ha
        · exact h2 x c e
      obtain ⟨cl, e, p1, p2, p3⟩ := zj7 env ns ((n, a) :: cs) (fun y hy => h1 y (List.mem_cons_of_mem _ hy)) lk
      refine ⟨cl, ?_, p1, fun x c q => ?_, fun y hy hf => ?_⟩
      · rw [List.forIn_cons]
        have ec : cellOf env n = pure a := by unfold cellOf; rw [ha]
        simp only [beq_self_eq_true, if_true, ec]
        exact e
      · by_cases hx : x = n
        · exact p2 x a (by rw [List.lookup_cons, hx]; simp)
        · exact p2 x c (by rw [List.lookup_cons, beq_eq_false_iff_ne.mpr hx]; exact q)
      · rcases List.mem_cons.mp hy with z | z
        · subst z; exact p2 n a (by simp [List.lookup_cons])
        · exact p3 y z hf
    · obtain ⟨cl, e, p1, p2, p3⟩ := zj7 env ns cs (fun y hy => h1 y (List.mem_cons_of_mem _ hy)) h2
      refine ⟨cl, ?_, p1, p2, fun y hy hf => ?_⟩
      · rw [List.forIn_cons]
        have eb : (k == NameKind.free) = false := by simpa using hk
        simp only [eb, Bool.false_eq_true, if_false]
        exact e
      · rcases List.mem_cons.mp hy with z | z
        · subst z; exact absurd hf hk
        · exact p3 y z hf
theorem zt3 {scope : Scope} {env : PySem.Env} (h : ∀ y ∈ scope.names, y.2 = .free -> ∃ c, env.cells.lookup y.1 = some c) :
    ∃ cl, closureFor scope env = pure cl /\ (∀ x c, cl.lookup x = some c -> env.cells.lookup x = some c) /\ ∀ y ∈ scope.names, y.2 = .free -> ∃ c, cl.lookup y.1 = some c := by
  obtain ⟨cl, e, p1, _, p3⟩ := zj7 env scope.names [] h (fun x c q => nomatch q)
  exact ⟨cl, by unfold closureFor; simp only [bind_pure]; exact e, p1, p3⟩
end
end LD
namespace LD
open PySem PySem.Spec PyProof.Rows L2
def zcx (X : Cx) (own bn : List Str) (scope : Scope) (cl : List (Str × Addr)) (C : Addr) (fp : List Addr) (s : Shared) (H : Hp) : Cx :=
  { X with N := own ++ bn, s₀ := s, H₀ := H, env := compEnvC scope cl C X.env, outer := X.stack, ex := fp, fn := fun _ => false, pn := [], xe := FF }
theorem mem_of_lookup {β : Type} : ∀ {l : List (Str × β)} {x : Str} {k : β}, l.lookup x = some k -> (x, k) ∈ l
  | [], _, _, h => by cases h
  | (n, b) :: r, x, k, h => by
    rw [List.lookup_cons] at h
    split at h
    · next q => cases h; rw [eq_of_beq q]; exact List.mem_cons_self
    · exact List.mem_cons_of_mem _ (mem_of_lookup h)
theorem zg0 {env : PySem.Env} : ∀ {names : List (Str × NameKind)} {x : Str} {k : NameKind},
    (names.map fun (n, k) => if (k == NameKind.free && env.scope.kind == .function && env.kindOf n == some .cell) then (n, NameKind.cell) else (n, k)).lookup x = some k ->
    ∃ k0, (x, k0) ∈ names /\ names.lookup x = some k0 /\ (k = k0 \/ (k0 = .free /\ k = .cell))
  | [], _, _, h => by cases h
  | (n, k0) :: r, x, k, h => by
    have ih := @zg0 env r x k
    have h : List.lookup x ((if (k0 == NameKind.free && env.scope.kind == .function && env.kindOf n == some .cell) = true then (n, NameKind.cell) else (n, k0)) :: _) = some k := h
    cases hx : x == n with
    | true =>
      have e := eq_of_beq hx
      subst e
      refine ⟨k0, List.mem_cons_self, by simp [List.lookup_cons], ?_⟩
      split at h
      · next c =>
        simp [List.lookup_cons] at h
        simp at c
        exact .inr ⟨c.1.1, h.symm⟩
      · simp [List.lookup_cons] at h
        exact .inl h.symm
    | false =>
      have h' : List.lookup x (r.map fun (n, k) => if (k == NameKind.free && env.scope.kind == .function && env.kindOf n == some .cell) then (n, NameKind.cell) else (n, k)) = some k := by
        split at h <;> simpa [List.lookup_cons, hx] using h
      obtain ⟨k1, h1, h2, h3⟩ := ih h'
      exact ⟨k1, List.mem_cons_of_mem _ h1, by simp [List.lookup_cons, hx]; exact h2, h3⟩
theorem zj2 {α β : Type} {R : α -> β -> Prop} : ∀ {l : List α} {r : List β} {i : Nat} {x : α}, Paired R l r -> l[i]? = some x -> ∃ y, r[i]? = some y /\ R x y
  | _, _, _, _, .nil, e => by simp at e
  | _, _, 0, _, .cons p _, e => by simp at e; subst e; exact ⟨_, rfl, p⟩
  | _, _, i + 1, x, .cons _ t, e => by
    obtain ⟨y, h1, h2⟩ := zj2 (i := i) (x := x) t (by simpa using e)
    exact ⟨y, by simpa using h1, h2⟩
structure zf6 (X : Cx) (own bn : List Str) (scope : Scope) : Prop where
  kind : scope.kind = .function
  nocell : ∀ y ∈ scope.names, y.2 ≠ .cell
  loc : ∀ y ∈ scope.names, y.2 = .local -> scope.names.lookup y.1 = some .local
  free : ∀ y ∈ scope.names, y.2 = .free -> X.env.kindOf y.1 = some .cell \/ X.env.kindOf y.1 = some .free
  dis : Paired (fun b x => (b = x /\ scope.names.lookup x ≠ some .local) \/ scope.names.lookup b = none) bn X.N
section
variable {X : Cx} {pins : List (Addr × Obj)} {σ : L2.St} {H : Hp} {s : Shared} {fp : List Addr} {scope : Scope} {cl : List (Str × Addr)} {own bn : List Str}
structure Cl (X : Cx) (scope : Scope) (cl : List (Str × Addr)) : Prop where
  sub : ∀ x c, cl.lookup x = some c -> X.env.cells.lookup x = some c
  has : ∀ y ∈ scope.names, y.2 = .free -> ∃ c, cl.lookup y.1 = some c
theorem z0t (I : Inv X pins σ H s) (S : zf6 X own bn scope) (hcl : Cl X scope cl) (hfp : ∀ b ∈ fp, zgs X pins H b) (hfo : ∀ b ∈ fp, ∃ o, s.heap.get? b = some o) :
    (zcx X own bn scope cl s.heap.objs.size fp s H).Ok where
  mod := I.ok.mod
  kind := S.kind
  glob := I.ok.glob
  blt := I.ok.blt
  above := Nat.le_refl _
  inj := fun x y c h1 h2 => I.ok.inj x y c (hcl.sub x c h1) (hcl.sub y c h2)
  has := fun x h => by
    have key : ∀ k, (relabel scope X.env).names.lookup x = some k -> (k = .cell \/ k = .free) -> ∃ c, cl.lookup x = some c := fun k hk hh => by
      obtain ⟨k0, h1, h2, h3⟩ := zg0 hk
      have hf : k0 = .free := by
        rcases h3 with e | ⟨e, _⟩
        · rcases hh with z | z
          · exact absurd (e.symm.trans z) (S.nocell _ h1)
          · exact e.symm.trans z
        · exact e
      exact hcl.has _ h1 hf
    rcases h with h | h
    · exact key _ h (.inl rfl)
    · exact key _ h (.inr rfl)
  cab := fun x c h => nomatch h
  hd := I.ok.hd
  frames := I.ok.frames
  stk := .inl rfl
  exf := fun b hb => ⟨fun e => by
      obtain ⟨o, ho⟩ := hfo b hb
      exact absurd (Heap.lt_size ho) (by rw [e]; exact Nat.lt_irrefl _), fun x c e => (hfp b hb).2.2.2.2.1 x c (hcl.sub x c e)⟩
  bs := fun b o e => I.bs b o e
  bsz := Nat.le_trans I.ok.bsz I.sz
  noex := fun b o e hb => by
    rcases (hfp b hb).2.2.2.1 with z | z
    · exact I.ok.noex b o e z
    · exact absurd (Nat.lt_of_lt_of_le (Heap.lt_size e) (Nat.le_trans I.ok.bsz z)) (Nat.lt_irrefl _)
  exfs := fun b hb hx => by
    rcases List.mem_cons.mp (I.stkSub b hx) with e | e
    · exact (hfp b hb).2.1 e
    · exact (hfp b hb).2.2.1 e
  funs := I.stack
  frf := fun b hb => I.stkFree b hb
theorem zyc (I : Inv X pins σ H s) (S : zf6 X own bn scope) (hcl : Cl X scope cl) (hfp : ∀ b ∈ fp, zgs X pins H b) (hfo : ∀ b ∈ fp, ∃ o, s.heap.get? b = some o) {h' : Heap} {t' : Nat} {m : Str -> Option Value}
    (hn : h'.Ns s.heap.objs.size m) (hk : ∀ b o, s.heap.get? b = some o -> h'.get? b = some o) :
    Inv (zcx X own bn scope cl s.heap.objs.size fp s H) [] (List.replicate own.length none ++ σ) H { s with heap := h', toks := t' } where
  ok := z0t I S hcl hfp hfo
  os := rfl
  bare := I.bare
  base := Un.kept hk
  loc := by
    refine ⟨m, hn, fun i x v e1 e2 hv => ?_⟩
    have e1 : (own ++ bn)[i]? = some x := e1
    have hi : own.length ≤ i := by
      by_cases q : i < own.length
      · rw [List.getElem?_append_left (by simpa using q), List.getElem?_replicate] at e2
        simp [q] at e2
      · omega
    rw [List.getElem?_append_right hi] at e1
    rw [List.getElem?_append_right (by simpa using hi)] at e2
    simp only [List.length_replicate] at e2
    have hx : X.N[i - own.length]? = some x /\ scope.names.lookup x ≠ some .local := by
      rcases zj2 S.dis e1 with ⟨y, h1, ⟨h2, h3⟩ | h2⟩
      · subst h2; exact ⟨h1, h3⟩
      · exfalso
        have no : ∀ k, (relabel scope X.env).names.lookup x ≠ some k := fun k hk => by
          obtain ⟨k0, _, h3, _⟩ := zg0 hk
          rw [h2] at h3; cases h3
        rcases hv with z | z | z
        · exact no _ z
        · exact no _ z
        · exact no _ z
    have key : ∀ k, (relabel scope X.env).names.lookup x = some k -> (k = .local \/ k = .cell \/ k = .free) -> ∃ c, (k = .cell \/ k = .free) /\ cl.lookup x = some c /\ (X.env.kindOf x = some .cell \/ X.env.kindOf x = some .free) := fun k hk2 hh => by
      obtain ⟨k0, h1, h2, h3⟩ := zg0 hk2
      have nl : k0 ≠ .local := fun e => hx.2 (by rw [h2, e])
      have hf : k0 = .free := by
        rcases h3 with e | ⟨e, _⟩
        · rcases hh with z | z | z
          · exact absurd (e.symm.trans z) nl
          · exact absurd (e.symm.trans z) (S.nocell _ h1)
          · exact e.symm.trans z
        · exact e
      obtain ⟨c, hc⟩ := hcl.has _ h1 hf
      refine ⟨c, ?_, hc, S.free _ h1 hf⟩
      rcases hh with z | z | z
      · rcases h3 with e | ⟨_, e⟩
        · rw [hf] at e; rw [e] at z; cases z
        · rw [e] at z; cases z
      · exact .inl z
      · exact .inr z
    have fin : ∀ k, (relabel scope X.env).names.lookup x = some k -> (k = .local \/ k = .cell \/ k = .free) -> ∃ u, RelV v u /\ Look (compEnvC scope cl s.heap.objs.size X.env) h' m x u := fun k hk2 hh => by
      obtain ⟨c, h1, h2, h3⟩ := key k hk2 hh
      obtain ⟨m0, _, hl⟩ := I.loc
      obtain ⟨u, r, l⟩ := hl _ x v hx.1 e2 (.inr h3)
      refine ⟨u, r, .inr ⟨?_, c, h2, ?_⟩⟩
      · rcases h1 with z | z
        · subst z; exact .inl hk2
        · subst z; exact .inr hk2
      · rcases l with ⟨z, _⟩ | ⟨_, c', hc', hcell⟩
        · rcases h3 with q | q
          · rw [z] at q; cases q
          · rw [z] at q; cases q
        · rw [hcl.sub x c h2] at hc'; cases hc'
          obtain ⟨o, ho, hd⟩ := hcell
          exact ⟨o, hk _ _ ho, hd⟩
    rcases hv with z | z | z
    · exact fin _ z (.inl rfl)
    · exact fin _ z (.inr (.inl rfl))
    · exact fin _ z (.inr (.inr rfl))
  cell := fun x c e => by
    obtain ⟨v, o, ho, hd⟩ := I.cell x c (hcl.sub x c e)
    exact ⟨v, o, hk _ _ ho, hd⟩
  free := I.hok.fresh (Nat.le_refl _)
  freeC := fun x c e => I.freeC x c (hcl.sub x c e)
  pin := fun p hp => nomatch hp
  hok := I.hok.kept hk
  len := by
    show (List.replicate own.length none ++ σ).length = (own ++ bn).length
    have := Paired.length S.dis
    simp [I.len, this]
theorem comp_back (I : Inv X pins σ H s) (hfp : ∀ b ∈ fp, zgs X pins H b) {pins' : List (Addr × Obj)} {σ' : L2.St} {H' : Hp} {s' : Shared} {C : Addr} (I' : Inv (zcx X own bn scope cl C fp s H) pins' σ' H' s') : Inv X pins σ H' s' :=
  I.call' (ch := fp) I'.os I'.base I'.hok I'.bare fun b hb => ⟨(hfp b hb).2.2.2.1, (hfp b hb).2.1, (hfp b hb).2.2.2.2.1, (hfp b hb).2.2.2.2.2⟩
theorem zwa (I : Inv X pins σ H s) {σ' : L2.St} {H' : Hp} {s' : Shared} (hf : H' s.heap.objs.size = none) (I' : Inv X pins σ' H' s') {h'' : Heap} (hs : Heap.SameBut s.heap.objs.size s'.heap h'') : Inv X pins σ' H' { s' with heap := h'' } :=
  I'.turned (t' := s'.toks) (fun b o hb e => (hs.2 b hb).trans e) hf (Nat.ne_of_gt I.lt) (.inr I.sz) (fun x c e z => by
    obtain ⟨v, q⟩ := I.cell x c e
    exact absurd q.lt (by rw [z]; exact Nat.lt_irrefl _)) fun p hp z => absurd (Heap.lt_size (I.pin p hp).1) (by rw [z]; exact Nat.lt_irrefl _)
end
end LD
namespace LD
open PySem PySem.Spec PyProof.Rows L2
structure zf5 (a : Addr) (μ : Mu) (H : Hp) (μ' : Mu) (H' : Hp) : Prop extends ExtW μ H μ' H' where
  pr : μ'.priv = μ.priv
  pk : ∀ b ∈ μ.priv, b ≠ a -> H' b = H b
theorem zf5.refl {a : Addr} {μ : Mu} {H : Hp} : zf5 a μ H μ H := ⟨.refl, rfl, fun _ _ _ => rfl⟩
theorem zf5.trans {a : Addr} {μ μ1 μ2 : Mu} {H H1 H2 : Hp} (x : zf5 a μ H μ1 H1) (y : zf5 a μ1 H1 μ2 H2) : zf5 a μ H μ2 H2 :=
  ⟨x.toExtW.trans y.toExtW, y.pr.trans x.pr, fun b hb n => (y.pk b (by rw [x.pr]; exact hb) n).trans (x.pk b hb n)⟩
theorem Ext.toD {a : Addr} {μ μ' : Mu} {H H' : Hp} (x : Ext μ H μ' H') : zf5 a μ H μ' H' := ⟨x.toExtW, x.pr, fun b hb _ => x.pk b hb⟩
def slots : Tgt -> List Nat
  | .one i => [i]
  | .tup l => l
def Clear (W : List Nat) (ρ : Env) : Prop := ∀ i ∈ W, ∀ d, ρ[i]? ≠ some (some d)
section
variable {fa : Fa} {K : PySem.W.Frag} {μ μ' : Mu} {H H' : Hp} {σ : L2.St} {ρ ρ1 : Env} {M : Mem} {a : Addr}
theorem zbv.weak (h : zbv fa K μ H σ ρ1) (hl : ρ1.length = ρ.length) (w : ∀ (i : Nat) d, ρ[i]? = some (some d) -> ρ1[i]? = some (some d)) : zbv fa K μ H σ ρ :=
  ⟨h.len.trans hl, fun i d e => h.at' i d (w i d e)⟩
theorem zmg : ∀ {l : List Nat} {ds : List D} {ρ ρ1 : Env}, zct l ds ρ = some ρ1 -> ρ1.length = ρ.length /\ ∀ i, i ∉ l -> ρ1[i]? = ρ[i]?
  | [], [], ρ, ρ1, h => by cases h; exact ⟨rfl, fun _ _ => rfl⟩
  | _ :: _, [], _, _, h => by cases h
  | [], _ :: _, _, _, h => by cases h
  | j :: l, d :: ds, ρ, ρ1, h => by
    obtain ⟨h1, h2⟩ := zmg (l := l) (ds := ds) h
    refine ⟨by simpa using h1, fun i hi => ?_⟩
    rw [h2 i (fun z => hi (List.mem_cons_of_mem _ z)), List.getElem?_set_ne (fun z => hi (by rw [z]; exact List.mem_cons_self))]
theorem zou {t : Tgt} {d : D} (h : zc1 t d ρ = some ρ1) : ρ1.length = ρ.length /\ ∀ i, i ∉ slots t -> ρ1[i]? = ρ[i]? := by
  cases t with
  | one j =>
    have h : some (ρ.set j (some d)) = some ρ1 := h
    cases h
    exact ⟨by simp, fun i hi => List.getElem?_set_ne (fun z => hi (by rw [z]; exact List.mem_cons_self))⟩
  | tup l =>
    cases d with
    | tup ds => exact zmg h
    | _ => cases h
theorem zbv.unbind {t : Tgt} {d : D} (h : zc1 t d ρ = some ρ1) (c : Clear (slots t) ρ) (r : zbv fa K μ H σ ρ1) : zbv fa K μ H σ ρ := by
  obtain ⟨h1, h2⟩ := zou h
  refine r.weak h1 fun i d e => ?_
  by_cases hi : i ∈ slots t
  · exact absurd e (c i hi d)
  · rw [h2 i hi]; exact e
theorem RelM.writeP (h : RelM fa K μ H M) {ws vs : List V} (e : a ∈ μ.priv) (hH : H a = some (.lst vs)) : RelM fa K μ (upd H a (.lst ws)) M := by
  have x : ExtW μ H μ (upd H a (.lst ws)) := ExtW.write hH (.inr e)
  refine ⟨fun k ds q => ?_, h.out, h.inj, fun b hb => ⟨?_, (h.pv b hb).2⟩⟩
  · obtain ⟨b, us, h1, h2, h3⟩ := h.at' k ds q
    have nb : b ≠ a := fun z => (h.pv a e).2 k (by rw [h1, z])
    exact ⟨b, us, h1, by rw [zbd nb]; exact h2, h3.extW x⟩
  · by_cases hb' : b = a
    · subst hb'; exact ⟨ws, zc5⟩
    · obtain ⟨us, q⟩ := (h.pv b hb).1
      exact ⟨us, by rw [zbd hb']; exact q⟩
theorem zf5.writeP {ws vs : List V} (e : a ∈ μ.priv) (hH : H a = some (.lst vs)) : zf5 a μ H μ (upd H a (.lst ws)) :=
  ⟨ExtW.write hH (.inr e), rfl, fun b _ n => by rw [zbd n]⟩
end
def WB (fa : Fa) (K : PySem.W.Frag) (a : Addr) (μ : Mu) (H : Hp) (ρ : Env) (Q : L2.St -> Hp -> Prop) (acc : List D) (M' : Mem) : Prop :=
  ∀ σ' H' μ' vs', zf5 a μ H μ' H' -> zbv fa K μ' H' σ' ρ -> RelM fa K μ' H' M' -> H' a = some (.lst vs') -> za6 fa K μ' H' acc vs' -> Q σ' H'
theorem WB.ext {fa : Fa} {K : PySem.W.Frag} {a : Addr} {μ μ1 : Mu} {H H1 : Hp} {ρ : Env} {Q : L2.St -> Hp -> Prop} {acc : List D} {M' : Mem} (h : WB fa K a μ H ρ Q acc M') (x : zf5 a μ H μ1 H1) : WB fa K a μ1 H1 ρ Q acc M' :=
  fun σ' H' μ' vs' y e m h1 h2 => h σ' H' μ' vs' (x.trans y) e m h1 h2
def DB (fa : Fa) (X : Cx) (a : Addr) (W : List Nat) (body : Sem Unit) (g : Env -> List D -> Mem -> Res (List D)) : Prop :=
  ∀ (pins : List (Addr × Obj)) (s : Shared) (σ : L2.St) (H : Hp) (Q : L2.St -> Hp -> Prop) (μ : Mu) (ρ : Env) (M : Mem) (acc : List D) (vs : List V), Inv X pins σ H s -> zbv fa X.K μ H σ ρ -> RelM fa X.K μ H M -> Clear W ρ -> a ∈ μ.priv -> H a = some (.lst vs) -> za6 fa X.K μ H acc vs ->
    okE (g ρ acc M) (WB fa X.K a μ H ρ Q) -> wpAny (model X.prog X.w) X.A body (fun _ s' => ∃ σ' H', Inv X pins σ' H' s' /\ Q σ' H') X.xe s
def zb8 (ge : Env -> Mem -> Res D) : Env -> List D -> Mem -> Res (List D) := fun ρ acc M => (ge ρ M).bind fun x M => if acc.length < sz then .ok (acc ++ [x]) M else .bad
def gIf (gc : Env -> Mem -> Res Bool) (g : Env -> List D -> Mem -> Res (List D)) : Env -> List D -> Mem -> Res (List D) := fun ρ acc M => (gc ρ M).bind fun k M => if k then g ρ acc M else .ok acc M
def zdv (t : Tgt) (g : Env -> List D -> Mem -> Res (List D)) (ρ : Env) : List D -> D -> Mem -> Res (List D) := fun acc d M => (ofO M (zc1 t d ρ)).bind fun ρ1 M => g ρ1 acc M
def gGen (t : Tgt) (gw : Env -> Mem -> Res Walk) (g : Env -> List D -> Mem -> Res (List D)) : Env -> List D -> Mem -> Res (List D) := fun ρ acc M => (gw ρ M).bind fun w M => zdu (zdv t g ρ) w acc M
section
variable {fa : Fa} {X : Cx} {a : Addr}
theorem zm5 {elt : PySem.Expr} {ge : Env -> Mem -> Res D} (he : DE fa X elt ge) : DB fa X a [] (eval elt X.env >>= fun x => call (.builtin "list.append") [.ref a, x] >>= fun _ => pure ()) (zb8 ge) := by
  intro pins s σ H Q μ ρ M acc vs I hE hM hc ha hH hr h
  obtain ⟨x, M1, e, q⟩ := zbl h
  split at q
  · next hz =>
    have q : WB fa X.K a μ H ρ Q (acc ++ [x]) M1 := q
    refine wpAny_bind (thn (he pins s σ H (fun v H1 => ∃ μ1, Ext μ H μ1 H1 /\ RelM fa X.K μ1 H1 M1 /\ Rep fa X.K μ1 H1 x v) I ⟨μ, ρ, M, hE, hM, ?_⟩) fun u s1 ⟨v, H1, I1, rv, μ1, x1, m1, r1⟩ => ?_)
    · rw [e]; exact fun v H1 μ1 x1 m1 r1 => ⟨μ1, x1, m1, r1⟩
    have hH1 : H1 a = some (.lst vs) := by rw [x1.pk a ha]; exact hH
    have ha1 : a ∈ μ1.priv := by rw [x1.pr]; exact ha
    have hl : vs.length < sizeLine := by rw [hr.length, <- zfr]; exact hz
    refine wpAny_bind (thn (zoo pins s1 σ H1 (.ref a) [v] (.ref a) [u] (fun _ H2 => H2 = upd H1 a (.lst (vs ++ [v]))) I1 rfl (.cons rv .nil) ⟨a, vs, v, rfl, rfl, hH1, hl, rfl⟩) fun _ s2 ⟨_, H2, I2, _, e2⟩ => wpAny_pure ⟨σ, H2, I2, ?_⟩)
    subst e2
    have xd : zf5 a μ1 H1 μ1 (upd H1 a (.lst (vs ++ [v]))) := zf5.writeP ha1 hH1
    exact q σ _ μ1 (vs ++ [v]) (x1.toD.trans xd) ((hE.ext x1).extW xd.toExtW) (m1.writeP ha1 hH1) zc5 (((hr.ext x1).append (.one r1)).extW xd.toExtW)
  · exact q.elim
theorem db_if {c : PySem.Expr} {gc : Env -> Mem -> Res Bool} {W : List Nat} {body : Sem Unit} {g : Env -> List D -> Mem -> Res (List D)} (hc : DT fa X c gc) (hb : DB fa X a W body g) :
    DB fa X a W (isTrue c X.env (eval c X.env) >>= fun ok => if ok = true then body else pure ()) (gIf gc g) := by
  intro pins s σ H Q μ ρ M acc vs I hE hM hw ha hH hr h
  obtain ⟨k, M1, e, q⟩ := zbl h
  refine wpAny_bind (thn (hc pins s σ H (fun b H1 => b = k /\ ∃ μ1, Ext μ H μ1 H1 /\ RelM fa X.K μ1 H1 M1) I ⟨μ, ρ, M, hE, hM, ?_⟩) fun b s1 ⟨H1, I1, eb, μ1, x1, m1⟩ => ?_)
  · rw [e]; exact fun H1 μ1 x1 m1 => ⟨rfl, μ1, x1, m1⟩
  subst eb
  have hH1 : H1 a = some (.lst vs) := by rw [x1.pk a ha]; exact hH
  have ha1 : a ∈ μ1.priv := by rw [x1.pr]; exact ha
  cases b with
  | true =>
    rw [if_pos rfl]
    exact hb pins s1 σ H1 Q μ1 ρ M1 acc vs I1 (hE.ext x1) m1 hw ha1 hH1 (hr.ext x1) (za9 q fun _ _ w => w.ext x1.toD)
  | false =>
    rw [if_neg Bool.false_ne_true]
    have q : WB fa X.K a μ H ρ Q acc M1 := q
    exact wpAny_pure ⟨σ, H1, I1, q σ H1 μ1 vs x1.toD (hE.ext x1) m1 hH1 (hr.ext x1)⟩
theorem zsq {elt : PySem.Expr} {gens : List Comprehension} {scope : Scope} {pos p : Pos} {k : Nat} {tg : PySem.Expr} {body : Sem Unit} {t : Tgt} {W : List Nat} {g : Env -> List D -> Mem -> Res (List D)} {it : Addr} {fp : List Addr} {tn : Nat -> Heap -> Prop} {J : It}
    (heq : compTurn (.ListComp elt gens scope pos) k (.ref it) (.ref a) X.env = (standAt p >>= fun _ => pyNext (.ref it) >>= fun r => match r with
      | none => pure (.done .next)
      | some v => letOwnedTupleGo tg (.ref it) v >>= fun _ => assign tg X.env v >>= fun _ => body >>= fun _ => again (.compLoop (.ListComp elt gens scope pos) k (.ref it) (.ref a) X.env)))
    (hx : X.xe = FF) (hcalm : X.calm = true) (T : Turn X.prog X.w X.K tg J fp it tn) (hg : PG X tg (gT fa X.K t)) (hb : DB fa X a W body g) (hW : ∀ i ∈ W, i ∉ slots t)
    {pins : List (Addr × Obj)} {s : Shared} {σ : L2.St} {H : Hp} {Q : L2.St -> Hp -> Prop} {μ : Mu} {ρ : Env} {M : Mem} {acc : List D} {vs : List V} {w : Walk} (I : Inv X pins σ H s) (st : tn 0 s.heap) (hf : ∀ b ∈ fp, zgs X pins H b) (hE : zbv fa X.K μ H σ ρ) (hM : RelM fa X.K μ H M)
    (hcl : Clear (slots t ++ W) ρ) (ha : a ∈ μ.priv) (hH : H a = some (.lst vs)) (hr : za6 fa X.K μ H acc vs) (wk : ze7 fa X.K μ H w J) (q : okE (zdu (zdv t g ρ) w acc M) (WB fa X.K a μ H ρ Q)) :
    codeAny (model X.prog X.w) X.A (.compLoop (.ListComp elt gens scope pos) k (.ref it) (.ref a) X.env) (fun r s' => r = .ok .next /\ ∃ σ' H', Inv X pins σ' H' s' /\ Q σ' H') s := by
  have stat : ∀ {H' : Hp}, (∀ b ∈ fp, H' b = none) -> ∀ b ∈ fp, zgs X pins H' b := fun hn b hb => ⟨hn b hb, (hf b hb).2⟩
  have clt : Clear (slots t) ρ := fun i hi => hcl i (List.mem_append_left _ hi)
  have clW : ∀ d ρ1, zc1 t d ρ = some ρ1 -> Clear W ρ1 := fun d ρ1 e i hi d' z => by
    rw [(zou e).2 i (hW i hi)] at z
    exact hcl i (List.mem_append_right _ hi) d' z
  let P : Nat -> Nat -> Shared -> Prop := fun m i s' => ∃ σ' H' μ' M' acc' vs', Inv X pins σ' H' s' /\ tn i s'.heap /\ (∀ b ∈ fp, H' b = none) /\ zf5 a μ H μ' H' /\ zbv fa X.K μ' H' σ' ρ /\ RelM fa X.K μ' H' M' /\ H' a = some (.lst vs') /\ za6 fa X.K μ' H' acc' vs' /\
    okE (zfj (zdv t g ρ) w m i acc' M') (WB fa X.K a μ H ρ Q)
  have P0 : ∃ m, P m 0 s := ⟨_, σ, H, μ, M, acc, vs, I, st, fun b hb => (hf b hb).1, .refl, hE, hM, hH, hr, q⟩
  obtain ⟨m0, P0⟩ := P0
  have hturn : ∀ (n : Nat) (i : Nat) (s3 : Shared), P n i s3 -> wpAny (model X.prog X.w) X.A (pyNext (.ref it)) (fun r s₁ => match r with
      | none => (∃ σ' H', Inv X pins σ' H' s₁ /\ Q σ' H')
      | some v => wpAny (model X.prog X.w) X.A (letOwnedTupleGo tg (.ref it) v) (fun _ s₂ => wpAny (model X.prog X.w) X.A (assign tg X.env v) (fun _ s₃ => wpAny (model X.prog X.w) X.A body (fun _ s₄ => ∃ m, m < n /\ P m (i + 1) s₄) FF s₃) FF s₂) FF s₁) FF s3 := by
    rintro n i s3 ⟨σ3, H3, μ3, M3, acc3, vs3, I3, st3, fr3, x3, hE3, hM3, hH3, hr3, q3⟩
    have ha3 : a ∈ μ3.priv := by rw [x3.pr]; exact ha
    have one : ∀ (d : D) (rest : List D -> Mem -> Res (List D)) (next : List D -> Mem -> Prop), J.go i H3 -> (∀ x H', J.yld i H3 x H' -> Ext μ3 H3 μ3 H' /\ RelM fa X.K μ3 H' M3 /\ Rep fa X.K μ3 H' d x) -> okE ((zdv t g ρ acc3 d M3).bind rest) (WB fa X.K a μ H ρ Q) ->
        (∀ σ' H' μ' M' acc' vs' s', Inv X pins σ' H' s' -> tn (i + 1) s'.heap -> (∀ b ∈ fp, H' b = none) -> zf5 a μ H μ' H' -> zbv fa X.K μ' H' σ' ρ -> RelM fa X.K μ' H' M' -> H' a = some (.lst vs') -> za6 fa X.K μ' H' acc' vs' -> okE (rest acc' M') (WB fa X.K a μ H ρ Q) -> ∃ m, m < n /\ P m (i + 1) s') ->
        wpAny (model X.prog X.w) X.A (pyNext (.ref it)) (fun r s₁ => match r with
          | none => (∃ σ' H', Inv X pins σ' H' s₁ /\ Q σ' H')
          | some v => wpAny (model X.prog X.w) X.A (letOwnedTupleGo tg (.ref it) v) (fun _ s₂ => wpAny (model X.prog X.w) X.A (assign tg X.env v) (fun _ s₃ => wpAny (model X.prog X.w) X.A body (fun _ s₄ => ∃ m, m < n /\ P m (i + 1) s₄) FF s₃) FF s₂) FF s₁) FF s3 := by
      intro d rest next go yl qd fin
      refine thn (T.item X rfl rfl rfl hcalm i pins s3 σ3 H3 FF I3 (stat fr3) st3 go) fun r s4 ⟨u, hr4, h4⟩ => ?_
      subst hr4
      refine thn h4 fun _ s5 ⟨x, H5, I5, r5, y5, st5, fr5⟩ => ?_
      obtain ⟨x5, hM5, rd⟩ := yl x H5 y5
      have I5' := I5.pinned (stat fr5) (T.obj _ _ st5)
      obtain ⟨acc6, M6, e6, q6⟩ := zbl qd
      obtain ⟨ρ1, M7, e7, e8⟩ := zet e6
      cases eb : zc1 t d ρ with
      | none => rw [eb] at e7; cases e7
      | some ρ2 =>
        rw [eb] at e7
        cases e7
        have hg' := hg _ s5 σ3 H5 x u (fun σ' H' => H' = H5 /\ zbv fa X.K μ3 H5 σ' ρ1) I5' r5 ⟨μ3, ρ, _, d, ρ1, hE3.ext x5, hM5, rd, eb, fun σ1 h1 => ⟨rfl, h1⟩⟩
        rw [hx] at hg'
        refine thn hg' fun _ s6 ⟨σ6, H6, I6, eH, hE6⟩ => ?_
        subst eH
        have hH6 : H6 a = some (.lst vs3) := by rw [x5.pk a ha3]; exact hH3
        have hb' := hb _ s6 σ6 H6 (fun σ' H' => ∃ μ' vs', zf5 a μ3 H6 μ' H' /\ zbv fa X.K μ' H' σ' ρ1 /\ RelM fa X.K μ' H' M6 /\ H' a = some (.lst vs') /\ za6 fa X.K μ' H' acc6 vs') μ3 ρ1 _ acc3 vs3 I6 hE6 hM5 (clW d ρ1 eb) ha3 hH6 (hr3.ext x5) (by
          rw [e8]; exact fun σ' H' μ' vs' z1 z2 z3 z4 z5 => ⟨μ', vs', z1, z2, z3, z4, z5⟩)
        rw [hx] at hb'
        refine thn hb' fun _ s7 ⟨σ7, H7, I7, μ7, vs7, x7, hE7, hM7, hH7, hr7⟩ => ?_
        refine fin σ7 H7 μ7 M6 acc6 vs7 s7 I7.unpinned (T.keep _ _ _ st5 fun b hb o e => (I7.pin (b, o) (List.mem_append_right _ (List.mem_append_right _ (zh8 hb e)))).1) (fun b hb => ?_) ((x3.trans x5.toD).trans x7) (hE7.unbind eb clt) hM7 hH7 hr7 q6
        obtain ⟨o, e, dd⟩ := T.obj _ _ st5 b hb
        exact (I7.pin (b, o) (List.mem_append_right _ (List.mem_append_right _ (zh8 hb e)))).2.1
    have stop : J.stop i H3 -> okE (.ok acc3 M3) (WB fa X.K a μ H ρ Q) -> wpAny (model X.prog X.w) X.A (pyNext (.ref it)) (fun r s₁ => match r with
          | none => (∃ σ' H', Inv X pins σ' H' s₁ /\ Q σ' H')
          | some v => wpAny (model X.prog X.w) X.A (letOwnedTupleGo tg (.ref it) v) (fun _ s₂ => wpAny (model X.prog X.w) X.A (assign tg X.env v) (fun _ s₃ => wpAny (model X.prog X.w) X.A body (fun _ s₄ => ∃ m, m < n /\ P m (i + 1) s₄) FF s₃) FF s₂) FF s₁) FF s3 := fun hs q => by
      refine thn (T.done X rfl rfl rfl hcalm i pins s3 σ3 H3 FF I3 (stat fr3) st3 hs) fun r s4 ⟨hr4, I4⟩ => ?_
      subst hr4
      have q : WB fa X.K a μ H ρ Q acc3 M3 := q
      exact ⟨σ3, H3, I4, q σ3 H3 μ3 vs3 x3 hE3 hM3 hH3 hr3⟩
    cases n with
    | zero => exact q3.elim
    | succ n =>
      unfold zfj at q3
      cases e2 : w M3 with
      | none => rw [e2] at q3; exact q3.elim
      | some ds =>
        rw [e2] at q3
        dsimp only at q3
        obtain ⟨go, stp⟩ := wk μ3 H3 M3 ds x3.toExtW hM3 e2
        cases ed : ds[i]? with
        | none =>
          rw [ed] at q3
          exact stop (stp i (List.getElem?_eq_none_iff.mp ed)) q3
        | some d =>
          rw [ed] at q3
          obtain ⟨g1, g2⟩ := go i d ed
          refine one d (zfj (zdv t g ρ) w n (i + 1)) (fun _ _ => True) g1 g2 q3 ?_
          intro σ' H' μ' M' acc' vs' s' z1 z2 z3 z4 z5 z6 z7 z8 z9
          exact ⟨n, by omega, σ', H', μ', M', acc', vs', z1, z2, z3, z4, z5, z6, z7, z8, z9⟩
  refine zv9 heq (fun n s' => ∃ i, P n i s') (fun n s3 ⟨i, h3⟩ => ?_) m0 ⟨0, P0⟩
  refine thn (hturn n i s3 h3) fun r s1 h => ?_
  cases r with
  | none => exact ⟨rfl, h⟩
  | some v => exact thn h fun _ s2 h => thn h fun _ s3 h => thn h fun _ s4 ⟨m, hm, h⟩ => ⟨m, hm, i + 1, h⟩
end
end LD
namespace LD
open PySem PySem.Spec PyProof.Rows L2
section
variable {prog : Program} {w : World} {A : Around} {s : Shared} {R : Result -> Shared -> Prop}
theorem zpf {elt t1 i1 t2 i2 : PySem.Expr} {f1 f2 : List PySem.Expr} {scope : Scope} {pos : Pos} {it acc : Value} {env : PySem.Env}
    (h0 : codeAny (model prog w) A (.compLoop (.ListComp elt [⟨t1, i1, f1, 0⟩, ⟨t2, i2, f2, 0⟩] scope pos) 1 it acc env) R s)
    (h : wpAny (model prog w) A (pyIter it) (fun it' s' => codeAny (model prog w) A (.compLoop (.ListComp elt [⟨t1, i1, f1, 0⟩, ⟨t2, i2, f2, 0⟩] scope pos) 1 it' acc env) R s')
      (notedBy (model prog w) A env fun x s' => R (.error x) s') s) :
    codeAny (model prog w) A (.compStart (.ListComp elt [⟨t1, i1, f1, 0⟩, ⟨t2, i2, f2, 0⟩] scope pos) 1 it acc env) R s := by
  refine codeAny_of_tree ?_
  show wpAny _ _ ((compStart (.ListComp elt [⟨t1, i1, f1, 0⟩, ⟨t2, i2, f2, 0⟩] scope pos) 1 it acc env).onRaise (fun x => do noteFrame x env; standAt theWindowsPlace)) _ _ s
  refine wpAny_notedAt ?_
  unfold compStart
  show wpAny _ _ (ask >>= _) _ _ s
  refine wpAny_bind (wpAny_askSetting (wpAny_ite ?_))
  split
  · first
      | exact wpAny_bind (wpAny_pure (wpAny_pure (And.intro rfl h0)))
      | exact wpAny_pure (And.intro rfl h0)
  · first
      | exact wpAny_bind (wpAny_rule (wpAny_bind (wpAny_standAt (wpAny_bind (wpAny_mono h (fun it' s' h' => wpAny_pure (And.intro rfl h')) fun _ _ x => x)))))
      | (refine wpAny_bind (wpAny_rule ?_); show wpAny _ _ (standAt i2.pos >>= _) _ _ s; exact wpAny_bind (wpAny_standAt (wpAny_bind (wpAny_mono h (fun it' s' h' => wpAny_pure (And.intro rfl h')) fun _ _ x => x))))
end
section
variable {fa : Fa} {X : Cx} {a : Addr}
theorem db_gen {elt t1 i1 t2 i2 : PySem.Expr} {scope : Scope} {pos : Pos} {t : Tgt} {gw : Env -> Mem -> Res Walk} {ge : Env -> Mem -> Res D} (hx : X.xe = FF) (hcalm : X.calm = true) (hi : DI fa X t2 i2 gw) (hg : PG X t2 (gT fa X.K t)) (he : DE fa X elt ge)
    (hs : ∀ x, foldedSetIterable i2 X.env x = pure x) :
    DB fa X a (slots t) (eval i2 X.env >>= fun x => standAt i2.pos >>= fun _ => foldedSetIterable i2 X.env x >>= fun x => holding [x] (pyIter x) >>= fun j => runOwn (.compStart (.ListComp elt [⟨t1, i1, [], 0⟩, ⟨t2, i2, [], 0⟩] scope pos) 1 j (.ref a) X.env) X.env >>= fun _ => pure ()) (gGen t gw (zb8 ge)) := by
  intro pins s σ H Q μ ρ M acc vs I hE hM hc ha hH hr h
  obtain ⟨w, M1, e, q⟩ := zbl h
  refine wpAny_bind (thn (hi pins s σ H (fun J H1 => ∃ μ1, Ext μ H μ1 H1 /\ RelM fa X.K μ1 H1 M1 /\ ze7 fa X.K μ1 H1 w J) I ⟨μ, ρ, M, hE, hM, ?_⟩) fun v s1 h1 => ?_)
  · rw [e]; exact fun J H1 μ1 x1 m1 wk => ⟨μ1, x1, m1, wk⟩
  refine wpAny_bind (wpAny_standAt (wpAny_bind (wpAny_of_eq (hs v) (wpAny_bind (wpAny_holding (thn h1 fun itv s2 h2 => ?_))))))
  obtain ⟨it, fp, tn, J, H2, ei, I2, T, st2, f2, μ2, x2, m2, wk⟩ := h2
  subst ei
  have hH2 : H2 a = some (.lst vs) := by rw [x2.pk a ha]; exact hH
  have ha2 : a ∈ μ2.priv := by rw [x2.pr]; exact ha
  have go := zsq (elt := elt) (gens := [⟨t1, i1, [], 0⟩, ⟨t2, i2, [], 0⟩]) (scope := scope) (pos := pos) (W := []) (Q := Q) (zwv elt t1 i1 t2 i2 scope pos (.ref it) (.ref a) X.env) hx hcalm T hg (zm5 he) (fun i hi => nomatch hi) I2 st2 f2 (hE.ext x2) m2 (by simpa using hc) ha2 hH2 (hr.ext x2) wk (za9 q fun _ _ z => z.ext x2.toD)
  refine wpAny_bind (wpAny_runOwn (h := none) ?_)
  have go' : codeAny (model X.prog X.w) (X.A.mark none) (.compLoop (.ListComp elt [⟨t1, i1, [], 0⟩, ⟨t2, i2, [], 0⟩] scope pos) 1 (.ref it) (.ref a) X.env) (fun r s' => match r with | .ok f => wpAny (model X.prog X.w) X.A (pure () : Sem Unit) (fun _ s' => ∃ σ' H', Inv X pins σ' H' s' /\ Q σ' H') X.xe s' | .error e => cameBackBy (model X.prog X.w) X.A X.env X.xe e s') s2 :=
    codeAny_mono go fun r s' ⟨er, z⟩ => by subst er; exact wpAny_pure z
  exact zpf go' (T.self _ 0 _ _ _ st2 go')
end
end LD
namespace LD
open PySem PySem.Spec PyProof.Rows L2
section
variable {fa : Fa} {K : PySem.W.Frag} {μ1 μ' : Mu} {H1 H' : Hp} {M1 M' : Mem} {a : Addr}
def muP (μ : Mu) (a : Addr) : Mu := ⟨μ.pub, a :: μ.priv⟩
theorem zkw (h : RelM fa K μ1 H1 M1) (ha : H1 a = none) (o : HO) : ExtW μ1 H1 (muP μ1 a) (upd H1 a o) := by
  have x : ExtW μ1 H1 μ1 (upd H1 a o) := (Ext.alloc h ha).toExtW
  refine ⟨x.mu, x.tups, fun b vs e n => ⟨(x.lsts b vs e n).1, fun z => ?_⟩, x.frzs⟩
  rcases z with z | z
  · exact n (.inl z)
  · rcases List.mem_cons.mp z with z | z
    · subst z; rw [ha] at e; cases e
    · exact n (.inr z)
theorem zu7 (h : RelM fa K μ1 H1 M1) (ha : H1 a = none) (vs : List V) : RelM fa K (muP μ1 a) (upd H1 a (.lst vs)) M1 := by
  have x := zkw h ha (.lst vs)
  refine ⟨fun k ds e => ?_, h.out, h.inj, fun b hb => ?_⟩
  · obtain ⟨b, ws, h1, h2, h3⟩ := h.at' k ds e
    exact ⟨b, ws, h1, by rw [zbd (zbs h2 ha)]; exact h2, h3.extW x⟩
  · rcases List.mem_cons.mp hb with z | z
    · subst z
      exact ⟨⟨vs, zc5⟩, fun k e => by
        obtain ⟨_, _, _, q, _⟩ := h.mu_lt e
        rw [ha] at q; cases q⟩
    · obtain ⟨⟨ws, q⟩, n⟩ := h.pv b z
      exact ⟨⟨ws, by rw [zbd (zbs q ha)]; exact q⟩, n⟩
theorem zzx {m : Bool} {acc : List D} {vs : List V} {Q : VK} (h : RelM fa K μ1 H1 M1) (ha : H1 a = none) (x : zf5 a (muP μ1 a) (upd H1 a (.lst [])) μ' H') (hM : RelM fa K μ' H' M') (hH : H' a = some (.lst vs)) (hr : za6 fa K μ' H' acc vs)
    (q : okE (zbn m acc M') (zbz fa K μ1 H1 Q)) : Q (.ref a) H' := by
  have na : a ∉ μ1.priv := fun z => h.pne ha z rfl
  have hp : μ'.priv = a :: μ1.priv := x.pr
  have nk : ∀ k, μ'.pub k ≠ some a := (hM.pv a (by rw [hp]; exact List.mem_cons_self)).2
  have x0 := zkw h ha (.lst [])
  have xe : Ext μ1 H1 ⟨μ'.pub, μ1.priv⟩ H' := by
    refine ⟨⟨fun k b e => x.mu k b e, fun b ws e => x.tups b ws (x0.tups b ws e), fun b ws e n => ?_, fun b ob u e => x.frzs b ob u (x0.frzs b ob u e)⟩, rfl, fun b hb => ?_⟩
    · obtain ⟨z1, z2⟩ := x0.lsts b ws e n
      obtain ⟨z3, z4⟩ := x.lsts b ws z1 z2
      refine ⟨z3, fun z => z4 ?_⟩
      rcases z with z | z
      · exact .inl z
      · exact .inr (by rw [hp]; exact List.mem_cons_of_mem _ z)
    · have nb : b ≠ a := fun e => na (by rw [<- e]; exact hb)
      rw [x.pk b (List.mem_cons_of_mem _ hb) nb, zbd nb]
  have xw : ExtW μ' H' ⟨μ'.pub, μ1.priv⟩ H' := ⟨fun _ _ e => e, fun _ _ e => e, fun b ws e n => ⟨e, fun z => n (z.elim .inl fun z => .inr (by rw [hp]; exact List.mem_cons_of_mem _ z))⟩, fun _ _ _ e => e⟩
  have me : RelM fa K ⟨μ'.pub, μ1.priv⟩ H' M' := ⟨fun k ds e => let ⟨b, ws, h1, h2, h3⟩ := hM.at' k ds e; ⟨b, ws, h1, h2, h3.extW xw⟩, hM.out, hM.inj, fun b hb => hM.pv b (by rw [hp]; exact List.mem_cons_of_mem _ hb)⟩
  have re : za6 fa K ⟨μ'.pub, μ1.priv⟩ H' acc vs := hr.extW xw
  have nMt : ¬ (⟨μ'.pub, μ1.priv⟩ : Mu).Mt a := fun z => z.elim (fun ⟨k, e⟩ => nk k e) na
  unfold zbn at q
  split at q
  · cases m with
    | false =>
      have q : zbz fa K μ1 H1 Q (.lst acc) M' := q
      exact q (.ref a) H' _ xe me ⟨a, vs, rfl, ⟨hH, nMt⟩, re⟩
    | true =>
      have q : zbz fa K μ1 H1 Q (.cell M'.length) (M' ++ [acc]) := q
      have pc : ∀ k b, (zgb ⟨μ'.pub, μ1.priv⟩ M'.length a).pub k = some b -> (k = M'.length /\ b = a) \/ (k ≠ M'.length /\ μ'.pub k = some b) := fun k b e => by
        have e : (if k = M'.length then some a else μ'.pub k) = some b := e
        split at e
        · next z => cases e; exact .inl ⟨z, rfl⟩
        · next z => exact .inr ⟨z, e⟩
      have mc : ∀ k b, μ'.pub k = some b -> (zgb ⟨μ'.pub, μ1.priv⟩ M'.length a).pub k = some b := fun k b e => by
        show (if k = M'.length then some a else μ'.pub k) = some b
        split
        · next z => rw [z, hM.out _ (Nat.le_refl _)] at e; cases e
        · exact e
      have ac : (zgb ⟨μ'.pub, μ1.priv⟩ M'.length a).pub M'.length = some a := by
        show (if M'.length = M'.length then some a else _) = some a
        rw [if_pos rfl]
      have nc : ∀ b, ¬ μ'.Mt b -> ¬ (zgb ⟨μ'.pub, μ1.priv⟩ M'.length a).Mt b := fun b n z => by
        rcases z with ⟨k, z⟩ | z
        · rcases pc k b z with ⟨_, e⟩ | ⟨_, e⟩
          · exact n (.inr (by rw [hp, e]; exact List.mem_cons_self))
          · exact n (.inl ⟨k, e⟩)
        · exact n (.inr (by rw [hp]; exact List.mem_cons_of_mem _ z))
      have xc : ExtW μ' H' (zgb ⟨μ'.pub, μ1.priv⟩ M'.length a) H' := ⟨mc, fun _ _ e => e, fun b ws e n => ⟨e, nc b n⟩, fun _ _ _ e => e⟩
      have xe2 : Ext μ1 H1 (zgb ⟨μ'.pub, μ1.priv⟩ M'.length a) H' := by
        refine ⟨⟨fun k b e => mc k b (x.mu k b e), xe.tups, fun b ws e n => ?_, xe.frzs⟩, rfl, xe.pk⟩
        obtain ⟨z1, z2⟩ := x0.lsts b ws e n
        obtain ⟨z3, z4⟩ := x.lsts b ws z1 z2
        exact ⟨z3, nc b z4⟩
      have mce : RelM fa K (zgb ⟨μ'.pub, μ1.priv⟩ M'.length a) H' (M' ++ [acc]) := by
        refine ⟨fun k ds e => ?_, fun k hk => ?_, fun j k b e1 e2 => ?_, fun b hb => ?_⟩
        · by_cases hk : k < M'.length
          · rw [List.getElem?_append_left hk] at e
            obtain ⟨b, ws, h1, h2, h3⟩ := hM.at' k ds e
            exact ⟨b, ws, mc k b h1, h2, h3.extW xc⟩
          · have hk' : k = M'.length := by
              have := (List.getElem?_eq_some_iff.mp e).1
              simp at this; omega
            subst hk'
            rw [List.getElem?_append_right (Nat.le_refl _)] at e
            simp at e
            subst e
            exact ⟨a, vs, ac, hH, hr.extW xc⟩
        · simp at hk
          show (if k = M'.length then some a else μ'.pub k) = none
          rw [if_neg (by omega)]
          exact hM.out k (by omega)
        · rcases pc j b e1 with ⟨j1, j2⟩ | ⟨j1, j2⟩ <;> rcases pc k b e2 with ⟨k1, k2⟩ | ⟨k1, k2⟩
          · omega
          · exact absurd (j2 ▸ k2) (nk k)
          · exact absurd (k2 ▸ j2) (nk j)
          · exact hM.inj j k b j2 k2
        · have hb : b ∈ μ1.priv := hb
          obtain ⟨z1, z2⟩ := hM.pv b (by rw [hp]; exact List.mem_cons_of_mem _ hb)
          refine ⟨z1, fun k e => ?_⟩
          rcases pc k b e with ⟨_, e⟩ | ⟨_, e⟩
          · exact na (e ▸ hb)
          · exact z2 k e
      exact q (.ref a) H' _ xe2 mce ⟨a, rfl, ac⟩
  · exact q.elim
end
section
variable {fa : Fa} {X : Cx}
def zb6 (m : Bool) (n : Nat) (t : Tgt) (gw : Env -> Mem -> Res Walk) (g : Env -> List D -> Mem -> Res (List D)) : Env -> Mem -> Res D := fun ρ M =>
  (gw ρ M).bind fun w M => (zdu (zdv t g (List.replicate n none ++ ρ)) w [] M).bind (zbn m)
def znb (X : Cx) (elt tg iter : PySem.Expr) (ifs : List PySem.Expr) (rest : List Comprehension) (scope : Scope) (pos : Pos) (body : Addr -> PySem.Env -> Sem Unit) : Prop :=
  ∀ (it a : Addr) (env : PySem.Env), compTurn (.ListComp elt (⟨tg, iter, ifs, 0⟩ :: rest) scope pos) 0 (.ref it) (.ref a) env = (standAt iter.pos >>= fun _ => pyNext (.ref it) >>= fun r => match r with
      | none => pure (.done .next)
      | some v => letOwnedTupleGo tg (.ref it) v >>= fun _ => assign tg env v >>= fun _ => body a env >>= fun _ => again (.compLoop (.ListComp elt (⟨tg, iter, ifs, 0⟩ :: rest) scope pos) 0 (.ref it) (.ref a) env))
structure Block (fa : Fa) (X : Cx) (own bn : List Str) (scope : Scope) (tg : PySem.Expr) (t : Tgt) (W : List Nat) (body : Addr -> PySem.Env -> Sem Unit) (g : Env -> List D -> Mem -> Res (List D)) : Prop where
  pg : ∀ cl C fp s H, PG (zcx X own bn scope cl C fp s H) tg (gT fa X.K t)
  db : ∀ cl C fp s H a, DB fa (zcx X own bn scope cl C fp s H) a W (body a (compEnvC scope cl C X.env)) g
theorem zwc {n : Nat} {W : List Nat} {ρ : Env} (h : ∀ i ∈ W, i < n) : Clear W (List.replicate n none ++ ρ) := fun i hi d e => by
  rw [List.getElem?_append_left (by simpa using h i hi), List.getElem?_replicate] at e
  simp [h i hi] at e
theorem zw9 {K : PySem.W.Frag} {μ : Mu} {H : Hp} {σ : L2.St} {ρ : Env} (n : Nat) (h : zbv fa K μ H σ ρ) : zbv fa K μ H (List.replicate n none ++ σ) (List.replicate n none ++ ρ) := by
  refine ⟨by simp [h.len], fun i d e => ?_⟩
  by_cases hi : i < n
  · rw [List.getElem?_append_left (by simpa using hi), List.getElem?_replicate] at e
    simp [hi] at e
  · rw [List.getElem?_append_right (by simp; omega)] at e ⊢
    simp only [List.length_replicate] at e ⊢
    exact h.at' _ d e
theorem zm6 {elt tg iter : PySem.Expr} {ifs : List PySem.Expr} {rest : List Comprehension} {scope : Scope} {pos p0 : Pos} {own bn : List Str} {t : Tgt} {W : List Nat} {body : Addr -> PySem.Env -> Sem Unit} {gw : Env -> Mem -> Res Walk} {g : Env -> List D -> Mem -> Res (List D)} {m : Bool}
    (S : zf6 X own bn scope) (hcalm : X.calm = true) (hi : DI fa X tg iter gw) (B : Block fa X own bn scope tg t W body g) (hT : znb X elt tg iter ifs rest scope pos body) (hW : ∀ i ∈ W, i ∉ slots t) (hn : ∀ i ∈ slots t ++ W, i < own.length)
    (hs : ∀ x, foldedSetIterable iter X.env x = pure x) {use : Option (Value -> Sem Unit)} {QQ : Value -> Shared -> Prop}
    {pins : List (Addr × Obj)} {s : Shared} {σ : L2.St} {H : Hp} {Q : VK} {μ : Mu} {ρ : Env} {M : Mem} (I : Inv X pins σ H s) (hE : zbv fa X.K μ H σ ρ) (hM : RelM fa X.K μ H M) (h : okE (zb6 m own.length t gw g ρ M) (zbz fa X.K μ H Q))
    (post : ∀ (a C : Addr) (s' : Shared) (H' : Hp), Inv X pins σ H' s' -> Q (.ref a) H' -> (∃ m, s'.heap.Ns C m) -> (∀ σ2 H2 s2, Inv X pins σ2 H2 s2 -> (H' C = none -> H2 C = none) -> H2 C = none /\ ∀ h'', Heap.SameBut C s2.heap h'' -> Inv X pins σ2 H2 { s2 with heap := h'' }) -> H' C = none -> (C ≠ X.env.locals /\ ∀ x c, X.env.cells.lookup x = some c -> c ≠ C) -> compPost (model X.prog X.w) X.A X.xe use QQ (.ref a) C (.ok .next) s') :
    wpAny (model X.prog X.w) X.A (comprehension (.ListComp elt (⟨tg, iter, ifs, 0⟩ :: rest) scope pos) scope X.env p0 (newList []) false (eval iter X.env) use) QQ X.xe s := by
  obtain ⟨w, M1, ew, q⟩ := zbl h
  obtain ⟨acc, M2, ea, q2⟩ := zbl q
  obtain ⟨cl, hcl, hsub, hhas⟩ := zt3 (scope := scope) (env := X.env) fun y hy hf => I.ok.has y.1 (S.free y hy hf)
  have CL : Cl X scope cl := ⟨hsub, hhas⟩
  refine wpAny_comprehension_free (use := use) rfl hs hcl S.kind S.loc ?_
  refine thn (hi pins s σ H (fun J H1 => ∃ μ1, Ext μ H μ1 H1 /\ RelM fa X.K μ1 H1 M1 /\ ze7 fa X.K μ1 H1 w J) I ⟨μ, ρ, M, hE, hM, ?_⟩) fun v s1 h1 => thn h1 fun itv s2 h2 => ?_
  · rw [ew]; exact fun J H1 μ1 x1 m1 wk => ⟨μ1, x1, m1, wk⟩
  obtain ⟨it, fp, tn, J, H2, ei, I2, T, st2, f2, μ2, x2, m2, wk⟩ := h2
  subst ei
  refine wpAny_newObj_type ?_
  have ha : H2 s2.heap.objs.size = none := I2.hok.fresh (Nat.le_refl _)
  have I3 : Inv X pins σ (upd H2 s2.heap.objs.size (.lst [])) { s2 with heap := s2.heap.push { cls := .type "list", dict := none, data := .seq ([] : List Value).toArray } } :=
    I2.laid (t' := s2.toks) (fun b o e => Heap.get?_push_of_some _ e) (Nat.le_refl _) ⟨Nat.zero_le _, [], _, .nil, Heap.get?_push_size _ rfl⟩
  generalize hs3 : ({ s2 with heap := s2.heap.push { cls := .type "list", dict := none, data := .seq ([] : List Value).toArray } } : Shared) = s3 at I3 ⊢
  have k3 : ∀ b o, s2.heap.get? b = some o -> s3.heap.get? b = some o := fun b o e => by rw [<- hs3]; exact Heap.get?_push_of_some _ e
  have fo2 := T.obj _ _ st2
  have f3 : ∀ b ∈ fp, zgs X pins (upd H2 s2.heap.objs.size (.lst [])) b := fun b hb => by
    obtain ⟨o, e, _⟩ := fo2 b hb
    exact ⟨by rw [zbd (Nat.ne_of_lt (Heap.lt_size e))]; exact (f2 b hb).1, (f2 b hb).2⟩
  have fo3 : ∀ b ∈ fp, ∃ o, s3.heap.get? b = some o := fun b hb => let ⟨o, e, _⟩ := fo2 b hb; ⟨o, k3 b o e⟩
  refine wpAny_newFunctionEnv S.nocell (by intro y hy; simp at hy) (fun h₁ hns₁ hsb₁ => ?_) S.kind
  have k4 : ∀ b o, s3.heap.get? b = some o -> h₁.get? b = some o := fun b o e => hsb₁.extBut b o (Nat.ne_of_lt (Heap.lt_size e)) (Heap.get?_push_of_some _ e)
  have I4 := zyc (own := own) (bn := bn) (t' := s3.toks + ([] : List (Str × Value)).length) I3 S CL f3 fo3 hns₁ k4
  have ok4 := I4.ok
  have f4 : ∀ b ∈ fp, zgs (zcx X own bn scope cl s3.heap.objs.size fp s3 (upd H2 s2.heap.objs.size (.lst []))) [] (upd H2 s2.heap.objs.size (.lst [])) b := fun b hb =>
    ⟨(f3 b hb).1, (ok4.exf b hb).1, ok4.exfs b hb, .inl hb, (ok4.exf b hb).2, fun p hp => nomatch hp⟩
  have st4 : tn 0 h₁ := T.keep _ _ _ st2 fun b hb o e => k4 b o (k3 b o e)
  have x3 := zkw m2 ha (.lst [])
  have go := zsq (X := zcx X own bn scope cl s3.heap.objs.size fp s3 (upd H2 s2.heap.objs.size (.lst []))) (fa := fa) (a := s2.heap.objs.size) (W := W) (t := t) (g := g) (acc := []) (vs := []) (Q := fun _ H' => Q (.ref s2.heap.objs.size) H') (hT it s2.heap.objs.size _) rfl hcalm T (B.pg _ _ _ _ _) (B.db _ _ _ _ _ _) hW I4 st4 f4
    (zw9 own.length ((hE.ext x2).extW x3)) (zu7 m2 ha []) (zwc hn) List.mem_cons_self zc5 rfl (zub wk x3) (by
      rw [ea]
      intro σ' H' μ' vs' z1 z2 z3 z4 z5
      exact zzx (m := m) m2 ha z1 z3 z4 z5 (okW q2 x2))
  have go' : codeAny (model X.prog X.w) X.A (.compLoop (.ListComp elt (⟨tg, iter, ifs, 0⟩ :: rest) scope pos) 0 (.ref it) (.ref s2.heap.objs.size) (compEnvC scope cl s3.heap.objs.size X.env)) (compPost (model X.prog X.w) X.A X.xe use QQ (.ref s2.heap.objs.size) s3.heap.objs.size) { s3 with heap := h₁, toks := s3.toks + ([] : List (Str × Value)).length } :=
    codeAny_mono go fun r s' ⟨er, σ', H', I', z⟩ => by
      subst er
      refine post _ _ s' H' (comp_back I3 f3 I') z (let ⟨m, hn, _⟩ := I'.loc; ⟨m, hn⟩) (fun σ2 H2 s2' I2' hf => ⟨hf I'.free, fun h'' hs'' => zwa I3 (hf I'.free) I2' hs''⟩) I'.free ⟨Nat.ne_of_gt I3.lt, fun x c e z => by
        obtain ⟨v, q⟩ := I3.cell x c e
        exact absurd q.lt (by rw [z]; exact Nat.lt_irrefl _)⟩
  exact codeAny_compStart_list go' (T.self _ 0 _ _ _ st4 go')
theorem d_comp (m : Bool) {elt tg iter : PySem.Expr} {ifs : List PySem.Expr} {rest : List Comprehension} {scope : Scope} {pos : Pos} {own bn : List Str} {t : Tgt} {W : List Nat} {body : Addr -> PySem.Env -> Sem Unit} {gw : Env -> Mem -> Res Walk} {g : Env -> List D -> Mem -> Res (List D)}
    (S : zf6 X own bn scope) (hcalm : X.calm = true) (hi : DI fa X tg iter gw) (B : Block fa X own bn scope tg t W body g) (hT : znb X elt tg iter ifs rest scope pos body) (hW : ∀ i ∈ W, i ∉ slots t) (hn : ∀ i ∈ slots t ++ W, i < own.length)
    (hs : ∀ x, foldedSetIterable iter X.env x = pure x) : DE fa X (.ListComp elt (⟨tg, iter, ifs, 0⟩ :: rest) scope pos) (zb6 m own.length t gw g) := by
  intro pins s σ H Q I ⟨μ, ρ, M, hE, hM, h⟩
  rw [eval_ListComp]
  refine zm6 (use := none) S hcalm hi B hT hW hn hs I hE hM h ?_
  intro a C s' H' I' q ⟨m, hn⟩ gone hf _
  exact ⟨m, hn, fun h' hs' => ⟨.ref a, H', (gone σ H' s' I' id).2 h' hs', rfl, q⟩⟩
theorem ztz (m : Bool) {i : Nat} {y : Str} {py spos : Pos} {elt tg iter : PySem.Expr} {ifs : List PySem.Expr} {rest : List Comprehension} {scope : Scope} {pos : Pos} {own bn : List Str} {t : Tgt} {W : List Nat} {body : Addr -> PySem.Env -> Sem Unit} {gw : Env -> Mem -> Res Walk} {g : Env -> List D -> Mem -> Res (List D)}
    (S : zf6 X own bn scope) (hcalm : X.calm = true) (hi : DI fa X tg iter gw) (B : Block fa X own bn scope tg t W body g) (hT : znb X elt tg iter ifs rest scope pos body) (hW : ∀ i ∈ W, i ∉ slots t) (hn : ∀ i ∈ slots t ++ W, i < own.length)
    (hs : ∀ x, foldedSetIterable iter X.env x = pure x) (hN : X.N.Nodup) (hy : X.N[i]? = some y) (hl : X.env.scope.names.lookup y = some .local)
    (hsw : swapsWith (.ListComp elt (⟨tg, iter, ifs, 0⟩ :: rest) scope pos) (some (.Name y py)) spos.line X.env = pure true) :
    DS fa X (.Assign [.Name y py] (.ListComp elt (⟨tg, iter, ifs, 0⟩ :: rest) scope pos) spos) (fun ρ M => (zb6 m own.length t gw g ρ M).bind fun x M => (ofO M (zc1 (.one i) x ρ)).bind fun ρ1 M => .ok (.next ρ1) M) := by
  intro pins s σ H D' I ⟨μ, ρ, M, hE, hM, h⟩
  obtain ⟨x, M1, ex, q⟩ := zbl h
  have q : ∀ σ' H' μ', Ext μ H μ' H' -> zbv fa X.K μ' H' σ' (ρ.set i (some x)) -> RelM fa X.K μ' H' M1 -> D'.nx σ' H' := q
  rw [exec_Assign_Name_used _ _ _ _ hsw]
  refine wpAny_bind (wpAny_standAt (wpAny_bind ?_))
  show wpAny _ X.A (do let _ <- comprehension (.ListComp elt (⟨tg, iter, ifs, 0⟩ :: rest) scope pos) scope X.env _ (newList []) false (eval iter X.env) (some (assign (.Name y py) X.env))) _ _ s
  refine wpAny_bind (thn (zm6 (use := some (assign (.Name y py) X.env)) (QQ := fun _ s' => SP X pins D' .next s') (Q := fun v H' => D'.nx (σ.set i (some v)) H') S hcalm hi B hT hW hn hs I hE hM (by
    rw [ex]
    exact fun v H' μ' x1 m1 r1 => q _ H' μ' x1 ((hE.ext x1).set r1) m1) ?_) fun _ s' hq => wpAny_pure (wpAny_pure hq))
  intro a C s' H' I' q ⟨m, hn⟩ gone hf ⟨nL, nC⟩
  refine wpAny_assign_Name (zoh I' hN hy (.inl hl) (v := .ref a) rfl (fun s2 I2 ⟨b, hb, hb2⟩ => ?_) (.inr hl))
  have nb : C ≠ b := by
    rcases hb2 with z | z
    · rw [z]; exact nL
    · exact Ne.symm (nC y b z)
  exact ⟨m, hn.sameBut hb nb, fun h' hs' => ⟨_, H', (gone _ H' s2 I2 id).2 h' hs', q⟩⟩
end
end LD
namespace LD
open PySem PySem.Spec PyProof.Rows L2
section
variable {X : Cx} {pins : List (Addr × Obj)} {σ : L2.St} {H : Hp} {s : Shared} {h' : Heap} {t' : Nat} {ch : List Addr}
theorem zne (I : Inv X pins σ H s) (hf : ∀ b ∈ ch, zgs X pins H b) (k : ∀ b o, b ∉ ch -> s.heap.get? b = some o -> h'.get? b = some o) : Inv X pins σ H { s with heap := h', toks := t' } := by
  have nit : ∀ b u, H b = some u -> b ∉ ch := fun b u e z => by rw [(hf b z).1] at e; cases e
  refine I.step (g' := s.gens) (d' := s.drawn) (ch := ch) (fun b hb => ⟨(hf b hb).2.2.2.1, (hf b hb).2.1, (hf b hb).2.2.2.2.1, (hf b hb).2.2.2.2.2⟩) (fun b o _ _ hc e _ => k b o hc e) (fun b o _ _ hc e _ => ⟨o.slots, k b o hc e⟩) (fun _ _ _ _ n => n)
    (fun b o hc e => ⟨o, k b o hc e⟩) (fun _ _ e => e) (fun _ _ _ e => e) (fun b ps e => ⟨#[], by rw [e]; simp⟩) (fun m hm => ?_) (fun b u e => ?_) I.bare
  · obtain ⟨o, es, ep, ho, r⟩ := hm
    exact ⟨o, es, ep, k _ o (fun z => (hf _ z).2.1 rfl) ho, r⟩
  · refine (I.hok b u e).stay (fun c v hc q => k c v ?_ q) (fun _ q => q) fun _ _ q => q
    rcases hc with z | z
    · rw [z]; exact nit b u e
    · exact nit c _ z
theorem zkj {T : Addr} {o : HO} (I : Inv X pins σ H s) (hf : ∀ b ∈ ch, zgs X pins H b) (k : ∀ b o, b ∉ ch -> s.heap.get? b = some o -> h'.get? b = some o) (hT : s.heap.objs.size ≤ T) (new : zdq X.prog X.w (upd H T o) h' T o) :
    Inv X pins σ (upd H T o) { s with heap := h', toks := t' } := by
  have hn : H T = none := I.hok.fresh hT
  have nit : ∀ b u, H b = some u -> b ∉ ch := fun b u e z => by rw [(hf b z).1] at e; cases e
  refine I.step (g' := s.gens) (d' := s.drawn) (ch := ch) (fun b hb => ⟨(hf b hb).2.2.2.1, (hf b hb).2.1, (hf b hb).2.2.2.2.1, (hf b hb).2.2.2.2.2⟩) (fun b o _ _ hc e _ => k b o hc e) (fun b o _ _ hc e _ => ⟨o.slots, k b o hc e⟩)
    (fun b o _ e n => by rw [zbd (Nat.ne_of_lt (Nat.lt_of_lt_of_le (Heap.lt_size e) hT))]; exact n)
    (fun b o hc e => ⟨o, k b o hc e⟩) (fun b xs e => by rw [zbd (zbs e hn)]; exact e) (fun b ob u e => by rw [zbd (zbs e hn)]; exact e) (fun b ps e => ⟨#[], by rw [zbd (zbs e hn), e]; simp⟩) (fun m hm => ?_) (fun b u e => ?_) I.bare
  · obtain ⟨o, es, ep, ho, r⟩ := hm
    exact ⟨o, es, ep, k _ o (fun z => (hf _ z).2.1 rfl) ho, r⟩
  · by_cases hb : b = T
    · subst hb; rw [zc5] at e; cases e; exact new
    · rw [zbd hb] at e
      refine (I.hok b u e).stay (fun c v hc q => k c v ?_ q) (fun c q => by rw [zbd (zbs q hn)]; exact q) fun c xs q => by rw [zbd (zbs q hn)]; exact q
      rcases hc with z | z
      · rw [z]; exact nit b u e
      · exact nit c _ z
end
def Ite (K : PySem.W.Frag) (a : Addr) : It :=
  ⟨fun i H => ∃ xs x, SqL K H a xs /\ xs[i]? = some x, fun i H v H' => ∃ p x, H p = none /\ v = .ref p /\ H' = upd H p (.tup [.int i, x]) /\ ∀ xs, SqL K H a xs -> xs[i]? = some x, fun i H => ∃ xs, SqL K H a xs /\ xs.length ≤ i⟩
theorem zuh {P : Program} {w : World} {K : PySem.W.Frag} {elts : List PySem.Expr} {kk : Nat} {pos : Pos} (a it e : Addr) (hne : e ≠ it) :
    Turn P w K (.Tuple elts kk pos) (Ite K a) [e, it] e (fun i h => (∃ old, IsEnum h e it (i : Nat) old) /\ h.IsListIter it a i) where
  mem := by simp
  obj := fun i h ⟨⟨old, he⟩, o, ho, c, d⟩ b hb => by
    rcases List.mem_cons.mp hb with z | z
    · subst z; exact ⟨_, he, fun v z => by cases z⟩
    · have e : b = it := by simpa using z
      subst e
      exact ⟨o, ho, fun v z => by rw [d] at z; cases z⟩
  keep := fun i h h' ⟨⟨old, he⟩, st⟩ k => ⟨⟨old, k e (by simp) _ he⟩, st.at fun o e => k it (by simp) o e⟩
  item := by
    intro X hP hw hK hc i pins s σ H E I hf st hg
    subst hP hw hK
    obtain ⟨xs, x, hq, hx⟩ := hg
    obtain ⟨⟨old, he⟩, hit⟩ := st
    obtain ⟨its, rv, p, hz⟩ := I.list hq
    obtain ⟨u, hu, ru⟩ := rv.get hx
    refine wpAny_pyNext_enum_item he hit p.isList (x := u) (by simpa using hu) hne fun h1 ho hit1 hT hsz hk => ⟨_, rfl, ?_⟩
    have hT0 : H s.heap.objs.size = none := I.hok.fresh (Nat.le_refl _)
    have elt : e < s.heap.objs.size := Heap.lt_size he
    refine wpAny_letOwnedTupleGo_enum (s := { s with heap := h1, toks := s.toks + 1 }) ho fun h2 he2 hs2 => ?_
    have he2 : IsEnum h2 e it ((i + 1 : Nat) : Int) u := by simpa using he2
    have hT2 : h2.get? s.heap.objs.size = some { cls := .type "tuple", data := .seq #[.int i s.toks, u] } := (hs2.2 _ (Nat.ne_of_gt elt)).trans hT
    refine ⟨.ref s.heap.objs.size, upd H s.heap.objs.size (.tup [.int i, x]), zkj (s := s) (t' := s.toks + 1) I hf (fun b o hb q => (hs2.2 b (fun z => hb (by simp [z]))).trans (hk b o (fun z => hb (by simp [z])) (fun z => hb (by simp [z])) q)) (Nat.le_refl _) ⟨?_, [.int i s.toks, u], .cons ⟨_, rfl⟩ (.cons ru .nil), ⟨_, hT2, rfl, _, rfl⟩⟩, rfl,
      ⟨_, x, hT0, rfl, rfl, fun ys hy => by rw [I.list_inj hy hq]; exact hx⟩, ⟨⟨u, he2⟩, hit1.extBut hs2.extBut (Ne.symm hne)⟩, fun b hb => ?_⟩
    · show 2 ≤ sizeLine; decide
    · have : b < s.heap.objs.size := by
        rcases List.mem_cons.mp hb with z | z
        · subst z; exact elt
        · have e : b = it := by simpa using z
          subst e
          obtain ⟨o, e, _⟩ := hit; exact Heap.lt_size e
      rw [zbd (Nat.ne_of_lt this)]; exact (hf b hb).1
  done := by
    intro X hP hw hK hc i pins s σ H E I hf st hg
    subst hP hw hK
    obtain ⟨xs, hq, hx⟩ := hg
    obtain ⟨⟨old, he⟩, hit⟩ := st
    obtain ⟨its, rv, p, hz⟩ := I.list hq
    have hl := rv.length
    exact wpAny_pyNext_enum_end (I.ok.hd hc) he hit p.isList (by simp; omega) fun h' eb => ⟨rfl, zne I hf (t' := s.toks) fun b o hb q => eb b o (fun z => hb (by simp [z])) q⟩
  self := fun _ _ _ _ _ ⟨⟨old, he⟩, _⟩ h => wpAny_pyIter_enum he h
section
variable {fa : Fa} {X : Cx} {a : PySem.Expr} {ga : Env -> Mem -> Res D} {pos p : Pos}
theorem zf1 : ∀ (ds : List D) (k i : Nat), (zdw k ds)[i]? = (ds[i]?).map fun d => .tup [.int ((k + i : Nat) : Int), d]
  | [], _, _ => by simp [zdw]
  | d :: ds, k, 0 => by simp [zdw]
  | d :: ds, k, i + 1 => by
    have := zf1 ds (k + 1) i
    simp only [zdw, List.getElem?_cons_succ, this]
    congr 1
    funext d
    congr 3
    omega
theorem zg5 : ∀ (ds : List D) (k : Nat), (zdw k ds).length = ds.length
  | [], _ => rfl
  | d :: ds, k => by simp [zdw, zg5 ds]
theorem zud {μ0 : Mu} {H0 : Hp} {dd : D} {ad : Addr} (h : Rep fa X.K μ0 H0 dd (.ref ad)) : ze7 fa X.K μ0 H0 (fun M => (rdD M dd).map (zdw 0)) (Ite X.K ad) := fun μ H M ds x hM e => by
  dsimp only at e
  cases e0 : rdD M dd with
  | none => rw [e0] at e; cases e
  | some es =>
    rw [e0] at e
    have e : zdw 0 es = ds := Option.some.inj e
    subst e
    obtain ⟨ad', vs, ea, s, r⟩ := zcc hM (Rep.extW x h) e0
    cases ea
    refine ⟨fun i d hd => ?_, fun i hi => ⟨vs, s, by rw [r.length, <- zg5 es 0]; exact hi⟩⟩
    rw [zf1] at hd
    cases e1 : es[i]? with
    | none => rw [e1] at hd; cases hd
    | some d0 =>
      rw [e1] at hd
      have hd : D.tup [.int ((0 + i : Nat) : Int), d0] = d := Option.some.inj hd
      subst hd
      obtain ⟨v, hv, rv⟩ := r.get e1
      refine ⟨⟨vs, v, s, hv⟩, fun y H' ⟨q, z, hq, ey, eH, hy⟩ => ?_⟩
      have := hy vs s
      rw [hv] at this; cases this
      subst eH ey
      refine ⟨Ext.alloc hM hq, hM.alloc hq, q, [.int i, v], rfl, .inl (.inl zc5), .int i, [v], rfl, ?_, v, [], rfl, rv.ext (Ext.alloc hM hq), rfl⟩
      show V.int i = V.int ((0 + i : Nat) : Int)
      rw [Nat.zero_add]
def zi7 (ga : Env -> Mem -> Res D) : Env -> Mem -> Res Walk := fun ρ M => (ga ρ M).bind fun x M => match x with
  | .lst ds => .ok (fun _ => some (zdw 0 ds)) M
  | .frz ds => .ok (fun _ => some (zdw 0 ds)) M
  | .cell k => .ok (fun M => (M[k]?).map (zdw 0)) M
  | _ => .bad
theorem zjp {elts : List PySem.Expr} {kk : Nat} {tp : Pos} (ha : DE fa X a ga) (hg : Gl X "enumerate") (hm : X.mg "enumerate" = none) (hs : starEach [a] X.env = [(false, eval a X.env)]) : DI fa X (.Tuple elts kk tp) (.Call (.Name "enumerate" p) [a] [] pos) (zi7 ga) := by
  intro pins s σ H R I ⟨μ, ρ, M, hE, hM, h⟩
  obtain ⟨x, M1, e, q⟩ := zbl h
  have key : (∀ μ' H', RelM fa X.K μ' H' M1 -> ∀ v, Rep fa X.K μ' H' x v -> ∃ ds, rdD M1 x = some ds) -> (∀ J H' μ', Ext μ H μ' H' -> RelM fa X.K μ' H' M1 -> ze7 fa X.K μ' H' (fun M => (rdD M x).map (zdw 0)) J -> R J H') ->
      wpAny (model X.prog X.w) X.A (eval (.Call (.Name "enumerate" p) [a] [] pos) X.env) (fun v s1 => wpAny (model X.prog X.w) X.A (pyIter v) (PIE X pins σ (.Tuple elts kk tp) R) X.xe s1) X.xe s := fun hx q => by
    refine Call_ (zhy I hg hm boot_enumerate (PyProof.Rows.callWith_type1 (thn (ze3 ha zhv hs pos pins s σ H (fun vs H1 => ∃ v μ1, vs = [v] /\ Ext μ H μ1 H1 /\ RelM fa X.K μ1 H1 M1 /\ Rep fa X.K μ1 H1 x v) I ⟨μ, ρ, M, hE, hM, ?_⟩) fun us s1 ⟨vs, H1, I1, r1, v, μ1, ev, x1, m1, rv⟩ => ?_) hs rfl))
    · rw [e]; exact fun v H1 μ1 x1 m1 r1 => ⟨v, μ1, rfl, x1, m1, r1⟩
    subst ev
    obtain ⟨ds, er⟩ := hx μ1 H1 m1 v rv
    obtain ⟨ad, vs, rfl, s1', r⟩ := zcc m1 rv er
    cases r1 with
    | cons r1 rr =>
      cases rr
      obtain rfl := r1
      obtain ⟨its, rvs, pl, hz⟩ := I1.list s1'
      refine call_enumerate_list pl.isList fun h1 he hit hsz hk => ?_
      have I2 : Inv X pins σ H1 { s1 with heap := h1 } := I1.kept (t' := s1.toks) hk
      refine wpAny_pyIter_enum (s := { s1 with heap := h1 }) he ?_
      refine ⟨s1.heap.objs.size + 1, [s1.heap.objs.size + 1, s1.heap.objs.size], _, _, H1, rfl, I2, zuh ad s1.heap.objs.size (s1.heap.objs.size + 1) (Nat.succ_ne_self _), ⟨⟨.none, he⟩, hit⟩, fun b hb => ?_, q _ H1 μ1 x1 m1 (zud rv)⟩
      have hb : s1.heap.objs.size ≤ b := by
        rcases List.mem_cons.mp hb with z | z
        · subst z; exact Nat.le_succ _
        · have e : b = s1.heap.objs.size := by simpa using z
          subst e; exact Nat.le_refl _
      exact I1.fpOk hb (I1.hok.fresh hb)
  cases x with
  | lst ds => exact key (fun _ _ _ _ _ => ⟨ds, rfl⟩) q
  | frz ds => exact key (fun _ _ _ _ _ => ⟨ds, rfl⟩) q
  | cell k => exact key (fun μ' H' m' v ⟨ad, _, hk⟩ => let ⟨ds, _, e, _⟩ := m'.mu_lt hk; ⟨ds, e⟩) q
  | _ => exact q.elim
end
end LD
namespace LD
open PySem PySem.Spec PyProof.Rows L2
def zbf : Bool -> Heap -> Addr -> Array Value -> Prop
  | true, h, a, its => h.IsList a its
  | false, h, a, its => h.IsTuple a its
def zbm : Bool -> Heap -> Addr -> Addr -> Nat -> Prop
  | true, h, it, a, i => h.IsListIter it a i
  | false, h, it, a, i => h.IsTupleIter it a i
theorem zbf.extBut {b : Bool} {h h' : Heap} {a c : Addr} {its : Array Value} (x : zbf b h a its) (hs : Heap.ExtBut c h h') (n : a ≠ c) : zbf b h' a its := by
  cases b <;> (obtain ⟨o, ho, r⟩ := x; exact ⟨o, hs a o n ho, r⟩)
theorem zbm.extBut {b : Bool} {h h' : Heap} {it a c : Addr} {i : Nat} (x : zbm b h it a i) (hs : Heap.ExtBut c h h') (n : it ≠ c) : zbm b h' it a i := by
  cases b <;> (obtain ⟨o, ho, r⟩ := x; exact ⟨o, hs it o n ho, r⟩)
theorem zbm.at {b : Bool} {h h' : Heap} {it a : Addr} {i : Nat} (x : zbm b h it a i) (k : ∀ o, h.get? it = some o -> h'.get? it = some o) : zbm b h' it a i := by
  cases b <;> (obtain ⟨o, ho, r⟩ := x; exact ⟨o, k o ho, r⟩)
theorem zbm.obj {b : Bool} {h : Heap} {it a : Addr} {i : Nat} (x : zbm b h it a i) : ∃ o, h.get? it = some o /\ ∀ v, o.data ≠ .cell v := by
  cases b <;> (obtain ⟨o, ho, c, d⟩ := x; exact ⟨o, ho, fun v z => by rw [d] at z; cases z⟩)
section
variable {prog : Program} {w : World} {A : Around} {E : Value -> Shared -> Prop} {s : Shared}
theorem zaq {a b : Nat} (h : a ≠ b) : @Ne Addr a b := h
theorem zhs {T : Addr} {its : Array Value} {k : Nat} {x : Value} {Q : Unit -> Shared -> Prop} (hT : s.heap.get? T = some { cls := .type "tuple", data := .seq its }) (hz : its.size ≤ 64)
    (h : ∀ h', h'.get? T = some { cls := .type "tuple", data := .seq (its.setIfInBounds k x) } -> Heap.SameBut T s.heap h' -> Q () { s with heap := h' }) :
    wpAny (model prog w) A (updateSeq T (·.setIfInBounds k x)) Q E s := by
  refine wpAny_updateSeq hT rfl (h _ ?_ (Heap.SameBut.update ..)) (Nat.le_trans hz (by decide)) (by rw [Array.size_setIfInBounds]; exact Nat.le_trans hz (by decide))
  rw [Heap.get?_update_self _ hT rfl]
  simp [Obj.mapSeq]
theorem zd8 {b : Bool} {it a : Addr} {i : Nat} {its : Array Value} {x : Value} {Q : Value -> Shared -> Prop} (hit : zbm b s.heap it a i) (hl : zbf b s.heap a its) (hx : its[i]? = some x)
    (hQ : ∀ h', zbm b h' it a (i + 1) -> Heap.SameBut it s.heap h' -> Q x { s with heap := h' }) : wpAny (model prog w) A (Builtin.SmallTypes.nextOf (.ref it)) Q E s := by
  cases b with
  | true => exact wpAny_nextOf_list_item hit hl hx hQ
  | false =>
    have hit : s.heap.IsTupleIter it a i := hit
    obtain ⟨o, ho, hc, hd⟩ := id hit
    obtain ⟨ol, hol, _, nl, hdl⟩ := hl
    unfold Builtin.SmallTypes.nextOf
    refine wpAny_bind (wpAny_callSpecial?_slot (name := Str.ofString "__next__") hit.typeIs F.slot_tuple_iterator_next
      (wpAny_call_entry F.slot_tuple_iterator_next hit.typeIs F.entry_tuple_iterator_next ?_ (F.args_tuple_iterator_next_1 _)))
    show wpAny _ _ (field (.ref it) 0 >>= _) _ _ s
    refine wpAny_bind (wpAny_field ho hd (x := .ref a) rfl ?_)
    show wpAny _ _ (if (Value.ref a == Value.none) = true then _ else _) _ _ s
    rw [if_neg (show ¬ ((Value.ref a == Value.none) = true) from Bool.false_ne_true)]
    show wpAny _ _ (field (.ref it) 1 >>= _) _ _ s
    refine wpAny_bind (wpAny_field ho hd (x := .int i 0) rfl ?_)
    show wpAny _ _ (seqItems? (.ref a) >>= _) _ _ s
    refine wpAny_bind (wpAny_seqItems hol hdl ?_)
    simp only [Int.toNat_natCast, hx]
    refine wpAny_bind (wpAny_setField ho hd (by simp) (wpAny_pure ⟨x, rfl, wpAny_pure (hQ _ ?_ (Heap.SameBut.update ..))⟩))
    exact ⟨_, Heap.get?_update_self _ ho (Obj.isFreed_of_fields (Obj.data_mapFields hd _)), (Obj.cls_mapFields ..).trans hc, by
      rw [Obj.data_mapFields hd]; simp [rawInt]⟩
theorem zg3 {b : Bool} {it a : Addr} {i : Nat} {its : Array Value} {Q : Value -> Shared -> Prop} (hh : A.handled = none) (hit : zbm b s.heap it a i) (hl : zbf b s.heap a its) (hx : its[i]? = none)
    (hE : ∀ h' e, Heap.ExtBut it s.heap h' -> (∃ o, h'.get? e = some o /\ o.cls = .type "StopIteration") -> E (.ref e) { s with heap := h' }) : wpAny (model prog w) A (Builtin.SmallTypes.nextOf (.ref it)) Q E s := by
  cases b with
  | true => exact wpAny_nextOf_list_end hh hit hl hx hE
  | false =>
    have hit : s.heap.IsTupleIter it a i := hit
    obtain ⟨o, ho, hc, hd⟩ := id hit
    obtain ⟨ol, hol, _, nl, hdl⟩ := hl
    unfold Builtin.SmallTypes.nextOf
    refine wpAny_bind (wpAny_callSpecial?_slot (name := Str.ofString "__next__") hit.typeIs F.slot_tuple_iterator_next
      (wpAny_call_entry F.slot_tuple_iterator_next hit.typeIs F.entry_tuple_iterator_next ?_ (F.args_tuple_iterator_next_1 _)))
    show wpAny _ _ (field (.ref it) 0 >>= _) _ _ s
    refine wpAny_bind (wpAny_field ho hd (x := .ref a) rfl ?_)
    show wpAny _ _ (if (Value.ref a == Value.none) = true then _ else _) _ _ s
    rw [if_neg (show ¬ ((Value.ref a == Value.none) = true) from Bool.false_ne_true)]
    show wpAny _ _ (field (.ref it) 1 >>= _) _ _ s
    refine wpAny_bind (wpAny_field ho hd (x := .int i 0) rfl ?_)
    show wpAny _ _ (seqItems? (.ref a) >>= _) _ _ s
    refine wpAny_bind (wpAny_seqItems hol hdl ?_)
    simp only [Int.toNat_natCast, hx]
    refine wpAny_bind (wpAny_rule (wpAny_bind (wpAny_setField ho hd (by simp) ?_)))
    show wpAny _ _ (newExc (.type "StopIteration") [] >>= _) _ _ _
    refine wpAny_bind ?_
    simp only [newExc, newTuple]
    refine wpAny_bind (wpAny_newObj_type ?_ (by size_fits))
    refine wpAny_bind (m := firstArgMember _ _) (wpAny_of_eq (a := Value.none) (by first | rfl | (simp only [firstArgMember]; rfl)) ?_)
    refine wpAny_newObj_type ?_ (by size_fits)
    simp only [raiseNew]
    refine wpAny_bind (wpAny_handled ?_)
    first | rw [show A.in1.handled = none from hh] | rw [hh]
    refine wpAny_bind (wpAny_pure (wpAny_throw ?_))
    exact hE _ _ (((Heap.SameBut.update ..).extBut.push _).push _) ⟨_, Heap.get?_push_size _ rfl, rfl⟩
theorem zt9 {n i : Nat} {a0 a1 : Nat} {b0 b1 : Bool} {xs0 xs1 : Array Value} {x0 x1 u0 u1 : Value} {Q : Value -> Shared -> Prop} (hn : a0 < n /\ a1 < n)
    (hz : IsZip s.heap (n + 4) (n + 2) (n + 3) .none) (hTI : s.heap.get? (n + 2) = some { cls := .type "tuple", data := .seq #[.ref n, .ref (n + 1)] }) (hTO : s.heap.get? (n + 3) = some { cls := .type "tuple", data := .seq #[u0, u1] })
    (i0 : zbm b0 s.heap n a0 i) (i1 : zbm b1 s.heap (n + 1) a1 i) (q0 : zbf b0 s.heap a0 xs0) (q1 : zbf b1 s.heap a1 xs1)
    (e0 : xs0[i]? = some x0) (e1 : xs1[i]? = some x1)
    (hQ : ∀ h', IsZip h' (n + 4) (n + 2) (n + 3) (rawInt s.heap.objs.size) -> h'.get? (n + 3) = some { cls := .type "tuple", data := .seq #[x0, x1] } -> zbm b0 h' n a0 (i + 1) -> zbm b1 h' (n + 1) a1 (i + 1) -> h'.get? s.heap.objs.size = some { cls := .type "tuple", data := .seq #[x0, x1] } -> h'.objs.size = s.heap.objs.size + 1 ->
      (∀ c o, c ∉ [n, (n + 1), (n + 3), (n + 4)] -> s.heap.get? c = some o -> h'.get? c = some o) -> Q (.ref s.heap.objs.size) { s with heap := h' }) :
    wpAny (model prog w) A (Builtin.«zip.__next__» ⟨[.ref (n + 4)], []⟩) (fun fin s' => ∃ v, fin = .done (.ret v) /\ Q v s') E s := by
  obtain ⟨l0, l1⟩ := hn
  show wpAny _ _ (field (.ref (n + 4)) 2 >>= _) _ _ _
  refine wpAny_bind (wpAny_field hz rfl (x := .bool false) rfl ?_)
  show wpAny _ _ (field (.ref (n + 4)) 3 >>= _) _ _ _
  refine wpAny_bind (wpAny_field hz rfl (x := .ref (n + 2)) rfl ?_)
  refine wpAny_bind (wpAny_seqItems hTI rfl ?_)
  show wpAny _ _ (Builtin.SmallTypes.ownedTupleIsFree (.ref (n + 4)) >>= _) _ _ _
  refine wpAny_bind ?_
  unfold Builtin.SmallTypes.ownedTupleIsFree
  refine wpAny_bind (wpAny_field hz rfl (x := .none) rfl (wpAny_pure ?_))
  simp only [if_true]
  refine wpAny_bind (wpAny_rule ?_)
  refine wpAny_bind (wpAny_field hz rfl (x := .ref (n + 3)) rfl ?_)
  refine wpAny_bind (wpAny_setField_rec hz (by simp) fun h0 hz0 hs0 => ?_)
  replace hz0 : IsZip h0 (n + 4) (n + 2) (n + 3) .ellipsis := hz0
  have k0 : ∀ c o, c ∉ [n, (n + 1), (n + 3), (n + 4)] -> s.heap.get? c = some o -> h0.get? c = some o := fun c o hc e => hs0.extBut _ _ (fun z => hc (by rw [z]; simp)) e
  have hTO0 : h0.get? (n + 3) = some { cls := .type "tuple", data := .seq #[u0, u1] } := hs0.extBut _ _ (zaq (by omega)) hTO
  have hsz0 : h0.objs.size = s.heap.objs.size := hs0.1
  refine wpAny_bind ?_
  simp only [List.zipIdx_cons, List.zipIdx_nil, List.forIn_cons, List.forIn_nil]
  have j0_0 : zbm b0 h0 n a0 i := i0.extBut hs0.extBut (zaq (by omega))
  have p0_0 : zbf b0 h0 a0 xs0 := q0.extBut hs0.extBut (zaq (by omega))
  have j1_0 : zbm b1 h0 (n + 1) a1 i := i1.extBut hs0.extBut (zaq (by omega))
  have p1_0 : zbf b1 h0 a1 xs1 := q1.extBut hs0.extBut (zaq (by omega))
  refine wpAny_bind (wpAny_bind (wpAny_onRaise ?_))
  show wpAny _ _ (Builtin.SmallTypes.nextOf (.ref n) >>= _) _ _ _
  refine wpAny_bind (zd8 j0_0 p0_0 e0 fun h1 j0_1 hs1 => wpAny_pure ?_)
  have hTO1 : h1.get? (n + 3) = some { cls := .type "tuple", data := .seq #[u0, u1] } := hs1.extBut _ _ (zaq (by omega)) hTO0
  refine wpAny_bind (wpAny_seqItems hTO1 rfl ?_)
  refine wpAny_bind (zhs hTO1 (by simp) fun h2 hTO2 hs2 => ?_)
  replace hTO2 : h2.get? (n + 3) = some { cls := .type "tuple", data := .seq #[x0, u1] } := hTO2
  have hz2 : IsZip h2 (n + 4) (n + 2) (n + 3) .ellipsis := hs2.extBut _ _ (zaq (by omega)) (hs1.extBut _ _ (zaq (by omega)) hz0)
  have k2 : ∀ c o, c ∉ [n, (n + 1), (n + 3), (n + 4)] -> s.heap.get? c = some o -> h2.get? c = some o := fun c o hc e => hs2.extBut _ _ (fun z => hc (by rw [z]; simp)) (hs1.extBut _ _ (fun z => hc (by rw [z]; simp)) (k0 c o hc e))
  have hsz2 : h2.objs.size = s.heap.objs.size := by rw [hs2.1, hs1.1, hsz0]
  have j0_2 : zbm b0 h2 n a0 (i + 1) := j0_1.extBut hs2.extBut (zaq (by omega))
  have p0_2 : zbf b0 h2 a0 xs0 := (p0_0.extBut hs1.extBut (zaq (by omega))).extBut hs2.extBut (zaq (by omega))
  have j1_2 : zbm b1 h2 (n + 1) a1 i := (j1_0.extBut hs1.extBut (zaq (by omega))).extBut hs2.extBut (zaq (by omega))
  have p1_2 : zbf b1 h2 a1 xs1 := (p1_0.extBut hs1.extBut (zaq (by omega))).extBut hs2.extBut (zaq (by omega))
  refine wpAny_bind (wpAny_letGo (wpAny_pure ?_))
  refine wpAny_bind (wpAny_bind (wpAny_onRaise ?_))
  show wpAny _ _ (Builtin.SmallTypes.nextOf (.ref (n + 1)) >>= _) _ _ _
  refine wpAny_bind (zd8 j1_2 p1_2 e1 fun h3 j1_3 hs3 => wpAny_pure ?_)
  have hTO3 : h3.get? (n + 3) = some { cls := .type "tuple", data := .seq #[x0, u1] } := hs3.extBut _ _ (zaq (by omega)) hTO2
  refine wpAny_bind (wpAny_seqItems hTO3 rfl ?_)
  refine wpAny_bind (zhs hTO3 (by simp) fun h4 hTO4 hs4 => ?_)
  replace hTO4 : h4.get? (n + 3) = some { cls := .type "tuple", data := .seq #[x0, x1] } := hTO4
  have hz4 : IsZip h4 (n + 4) (n + 2) (n + 3) .ellipsis := hs4.extBut _ _ (zaq (by omega)) (hs3.extBut _ _ (zaq (by omega)) hz2)
  have k4 : ∀ c o, c ∉ [n, (n + 1), (n + 3), (n + 4)] -> s.heap.get? c = some o -> h4.get? c = some o := fun c o hc e => hs4.extBut _ _ (fun z => hc (by rw [z]; simp)) (hs3.extBut _ _ (fun z => hc (by rw [z]; simp)) (k2 c o hc e))
  have hsz4 : h4.objs.size = s.heap.objs.size := by rw [hs4.1, hs3.1, hsz2]
  have j0_4 : zbm b0 h4 n a0 (i + 1) := (j0_2.extBut hs3.extBut (zaq (by omega))).extBut hs4.extBut (zaq (by omega))
  have p0_4 : zbf b0 h4 a0 xs0 := (p0_2.extBut hs3.extBut (zaq (by omega))).extBut hs4.extBut (zaq (by omega))
  have j1_4 : zbm b1 h4 (n + 1) a1 (i + 1) := j1_3.extBut hs4.extBut (zaq (by omega))
  have p1_4 : zbf b1 h4 a1 xs1 := (p1_2.extBut hs3.extBut (zaq (by omega))).extBut hs4.extBut (zaq (by omega))
  refine wpAny_bind (wpAny_letGo (wpAny_pure (wpAny_pure ?_)))
  refine wpAny_bind (wpAny_seqItems hTO4 rfl ?_)
  refine wpAny_bind (wpAny_newTuple ?_)
  have hzlt : (n + 4) < h4.objs.size := Heap.lt_size hz4
  show wpAny _ _ (Builtin.SmallTypes.ownedTupleHandOut (.ref (n + 4)) (.ref h4.objs.size) >>= _) _ _ _
  refine wpAny_bind ?_
  unfold Builtin.SmallTypes.ownedTupleHandOut
  have hz6 : IsZip (h4.push { cls := .type "tuple", data := .seq #[x0, x1] }) (n + 4) (n + 2) (n + 3) .ellipsis := Heap.get?_push_of_some _ hz4
  refine wpAny_bind (wpAny_setField_rec hz6 (by simp) fun h7 hz7 hs7 => ?_)
  replace hz7 : IsZip h7 (n + 4) (n + 2) (n + 3) (rawInt h4.objs.size) := hz7
  refine wpAny_setField_rec hz7 (by simp) fun h8 hz8 hs8 => ?_
  replace hz8 : IsZip h8 (n + 4) (n + 2) (n + 3) (rawInt h4.objs.size) := hz8
  have up : ∀ c o, c ≠ (n + 4) -> h4.get? c = some o -> h8.get? c = some o := fun c o c1 e => hs8.extBut _ _ c1 (hs7.extBut _ _ c1 (Heap.get?_push_of_some _ e))
  have hT8 : h8.get? h4.objs.size = some { cls := .type "tuple", data := .seq #[x0, x1] } := hs8.extBut _ _ (Nat.ne_of_gt hzlt) (hs7.extBut _ _ (Nat.ne_of_gt hzlt) (Heap.get?_push_size _ rfl))
  have hzz : h8.objs.size = h4.objs.size + 1 := by rw [hs8.1, hs7.1, Heap.size_push]
  rw [hsz4] at hz8 hT8 hzz
  refine wpAny_pure ⟨_, rfl, ?_⟩
  show Q (.ref h4.objs.size) _
  rw [hsz4]
  exact hQ h8 hz8 (up _ _ (zaq (by omega)) hTO4) (j0_4.at fun o e => up _ o (zaq (by omega)) e) (j1_4.at fun o e => up _ o (zaq (by omega)) e) hT8 hzz fun c o hc e => up c o (fun z => hc (by rw [z]; simp)) (k4 c o hc e)
theorem zwo {n i : Nat} {a0 a1 : Nat} {b0 b1 : Bool} {xs0 xs1 : Array Value} {u0 u1 : Value} {Q : Fin -> Shared -> Prop} (hh : A.handled = none) (hn : a0 < n /\ a1 < n)
    (hz : IsZip s.heap (n + 4) (n + 2) (n + 3) .none) (hTI : s.heap.get? (n + 2) = some { cls := .type "tuple", data := .seq #[.ref n, .ref (n + 1)] }) (hTO : s.heap.get? (n + 3) = some { cls := .type "tuple", data := .seq #[u0, u1] })
    (i0 : zbm b0 s.heap n a0 i) (i1 : zbm b1 s.heap (n + 1) a1 i) (q0 : zbf b0 s.heap a0 xs0) (q1 : zbf b1 s.heap a1 xs1)
    (hend : xs0[i]? = none \/ xs1[i]? = none)
    (hE : ∀ h' e, (∀ c o, c ∉ [n, (n + 1), (n + 3), (n + 4)] -> s.heap.get? c = some o -> h'.get? c = some o) -> (∃ o, h'.get? e = some o /\ o.cls = .type "StopIteration") -> E (.ref e) { s with heap := h' }) :
    wpAny (model prog w) A (Builtin.«zip.__next__» ⟨[.ref (n + 4)], []⟩) Q E s := by
  obtain ⟨l0, l1⟩ := hn
  show wpAny _ _ (field (.ref (n + 4)) 2 >>= _) _ _ _
  refine wpAny_bind (wpAny_field hz rfl (x := .bool false) rfl ?_)
  show wpAny _ _ (field (.ref (n + 4)) 3 >>= _) _ _ _
  refine wpAny_bind (wpAny_field hz rfl (x := .ref (n + 2)) rfl ?_)
  refine wpAny_bind (wpAny_seqItems hTI rfl ?_)
  show wpAny _ _ (Builtin.SmallTypes.ownedTupleIsFree (.ref (n + 4)) >>= _) _ _ _
  refine wpAny_bind ?_
  unfold Builtin.SmallTypes.ownedTupleIsFree
  refine wpAny_bind (wpAny_field hz rfl (x := .none) rfl (wpAny_pure ?_))
  simp only [if_true]
  refine wpAny_bind (wpAny_rule ?_)
  refine wpAny_bind (wpAny_field hz rfl (x := .ref (n + 3)) rfl ?_)
  refine wpAny_bind (wpAny_setField_rec hz (by simp) fun h0 hz0 hs0 => ?_)
  replace hz0 : IsZip h0 (n + 4) (n + 2) (n + 3) .ellipsis := hz0
  have k0 : ∀ c o, c ∉ [n, (n + 1), (n + 3), (n + 4)] -> s.heap.get? c = some o -> h0.get? c = some o := fun c o hc e => hs0.extBut _ _ (fun z => hc (by rw [z]; simp)) e
  have hTO0 : h0.get? (n + 3) = some { cls := .type "tuple", data := .seq #[u0, u1] } := hs0.extBut _ _ (zaq (by omega)) hTO
  refine wpAny_bind ?_
  simp only [List.zipIdx_cons, List.zipIdx_nil, List.forIn_cons, List.forIn_nil]
  have j0_0 : zbm b0 h0 n a0 i := i0.extBut hs0.extBut (zaq (by omega))
  have p0_0 : zbf b0 h0 a0 xs0 := q0.extBut hs0.extBut (zaq (by omega))
  have j1_0 : zbm b1 h0 (n + 1) a1 i := i1.extBut hs0.extBut (zaq (by omega))
  have p1_0 : zbf b1 h0 a1 xs1 := q1.extBut hs0.extBut (zaq (by omega))
  refine wpAny_bind (wpAny_bind (wpAny_onRaise ?_))
  show wpAny _ _ (Builtin.SmallTypes.nextOf (.ref n) >>= _) _ _ _
  cases e0 : xs0[i]? with
  | none =>
    refine wpAny_bind (zg3 hh j0_0 p0_0 e0 fun h1 e hs1 he => ?_)
    obtain ⟨oe, hoe, hce⟩ := he
    have hz1 : IsZip h1 (n + 4) (n + 2) (n + 3) .ellipsis := hs1 _ _ (zaq (by omega)) hz0
    have hez : e ≠ (n + 4) := fun x => by subst x; rw [hz1] at hoe; cases hoe; simp at hce
    exact wpAny_setField_rec hz1 (by simp) fun h2 _ hs2 => hE h2 e (fun c o hc x => hs2.extBut _ _ (fun z => hc (by rw [z]; simp)) (hs1 _ _ (fun z => hc (by rw [z]; simp)) (k0 c o hc x))) ⟨oe, hs2.extBut _ _ hez hoe, hce⟩
  | some x0 =>
    refine wpAny_bind (zd8 j0_0 p0_0 e0 fun h1 j0_1 hs1 => wpAny_pure ?_)
    have hTO1 : h1.get? (n + 3) = some { cls := .type "tuple", data := .seq #[u0, u1] } := hs1.extBut _ _ (zaq (by omega)) hTO0
    refine wpAny_bind (wpAny_seqItems hTO1 rfl ?_)
    refine wpAny_bind (zhs hTO1 (by simp) fun h2 hTO2 hs2 => ?_)
    replace hTO2 : h2.get? (n + 3) = some { cls := .type "tuple", data := .seq #[x0, u1] } := hTO2
    have hz2 : IsZip h2 (n + 4) (n + 2) (n + 3) .ellipsis := hs2.extBut _ _ (zaq (by omega)) (hs1.extBut _ _ (zaq (by omega)) hz0)
    have k2 : ∀ c o, c ∉ [n, (n + 1), (n + 3), (n + 4)] -> s.heap.get? c = some o -> h2.get? c = some o := fun c o hc e => hs2.extBut _ _ (fun z => hc (by rw [z]; simp)) (hs1.extBut _ _ (fun z => hc (by rw [z]; simp)) (k0 c o hc e))
    have j1_2 : zbm b1 h2 (n + 1) a1 i := (j1_0.extBut hs1.extBut (zaq (by omega))).extBut hs2.extBut (zaq (by omega))
    have p1_2 : zbf b1 h2 a1 xs1 := (p1_0.extBut hs1.extBut (zaq (by omega))).extBut hs2.extBut (zaq (by omega))
    refine wpAny_bind (wpAny_letGo (wpAny_pure ?_))
    refine wpAny_bind (wpAny_bind (wpAny_onRaise ?_))
    show wpAny _ _ (Builtin.SmallTypes.nextOf (.ref (n + 1)) >>= _) _ _ _
    cases e1 : xs1[i]? with
    | none =>
      refine wpAny_bind (zg3 hh j1_2 p1_2 e1 fun h3 e hs3 he => ?_)
      obtain ⟨oe, hoe, hce⟩ := he
      have hz3 : IsZip h3 (n + 4) (n + 2) (n + 3) .ellipsis := hs3 _ _ (zaq (by omega)) hz2
      have hez : e ≠ (n + 4) := fun x => by subst x; rw [hz3] at hoe; cases hoe; simp at hce
      exact wpAny_setField_rec hz3 (by simp) fun h4 _ hs4 => hE h4 e (fun c o hc x => hs4.extBut _ _ (fun z => hc (by rw [z]; simp)) (hs3 _ _ (fun z => hc (by rw [z]; simp)) (k2 c o hc x))) ⟨oe, hs4.extBut _ _ hez hoe, hce⟩
    | some x1 =>
      exfalso
      rcases hend with h | h
      · rw [e0] at h; cases h
      · rw [e1] at h; cases h
theorem zt8 {n i : Nat} {a0 a1 a2 : Nat} {b0 b1 b2 : Bool} {xs0 xs1 xs2 : Array Value} {x0 x1 x2 u0 u1 u2 : Value} {Q : Value -> Shared -> Prop} (hn : a0 < n /\ a1 < n /\ a2 < n)
    (hz : IsZip s.heap (n + 5) (n + 3) (n + 4) .none) (hTI : s.heap.get? (n + 3) = some { cls := .type "tuple", data := .seq #[.ref n, .ref (n + 1), .ref (n + 2)] }) (hTO : s.heap.get? (n + 4) = some { cls := .type "tuple", data := .seq #[u0, u1, u2] })
    (i0 : zbm b0 s.heap n a0 i) (i1 : zbm b1 s.heap (n + 1) a1 i) (i2 : zbm b2 s.heap (n + 2) a2 i) (q0 : zbf b0 s.heap a0 xs0) (q1 : zbf b1 s.heap a1 xs1) (q2 : zbf b2 s.heap a2 xs2)
    (e0 : xs0[i]? = some x0) (e1 : xs1[i]? = some x1) (e2 : xs2[i]? = some x2)
    (hQ : ∀ h', IsZip h' (n + 5) (n + 3) (n + 4) (rawInt s.heap.objs.size) -> h'.get? (n + 4) = some { cls := .type "tuple", data := .seq #[x0, x1, x2] } -> zbm b0 h' n a0 (i + 1) -> zbm b1 h' (n + 1) a1 (i + 1) -> zbm b2 h' (n + 2) a2 (i + 1) -> h'.get? s.heap.objs.size = some { cls := .type "tuple", data := .seq #[x0, x1, x2] } -> h'.objs.size = s.heap.objs.size + 1 ->
      (∀ c o, c ∉ [n, (n + 1), (n + 2), (n + 4), (n + 5)] -> s.heap.get? c = some o -> h'.get? c = some o) -> Q (.ref s.heap.objs.size) { s with heap := h' }) :
    wpAny (model prog w) A (Builtin.«zip.__next__» ⟨[.ref (n + 5)], []⟩) (fun fin s' => ∃ v, fin = .done (.ret v) /\ Q v s') E s := by
  obtain ⟨l0, l1, l2⟩ := hn
  show wpAny _ _ (field (.ref (n + 5)) 2 >>= _) _ _ _
  refine wpAny_bind (wpAny_field hz rfl (x := .bool false) rfl ?_)
  show wpAny _ _ (field (.ref (n + 5)) 3 >>= _) _ _ _
  refine wpAny_bind (wpAny_field hz rfl (x := .ref (n + 3)) rfl ?_)
  refine wpAny_bind (wpAny_seqItems hTI rfl ?_)
  show wpAny _ _ (Builtin.SmallTypes.ownedTupleIsFree (.ref (n + 5)) >>= _) _ _ _
  refine wpAny_bind ?_
  unfold Builtin.SmallTypes.ownedTupleIsFree
  refine wpAny_bind (wpAny_field hz rfl (x := .none) rfl (wpAny_pure ?_))
  simp only [if_true]
  refine wpAny_bind (wpAny_rule ?_)
  refine wpAny_bind (wpAny_field hz rfl (x := .ref (n + 4)) rfl ?_)
  refine wpAny_bind (wpAny_setField_rec hz (by simp) fun h0 hz0 hs0 => ?_)
  replace hz0 : IsZip h0 (n + 5) (n + 3) (n + 4) .ellipsis := hz0
  have k0 : ∀ c o, c ∉ [n, (n + 1), (n + 2), (n + 4), (n + 5)] -> s.heap.get? c = some o -> h0.get? c = some o := fun c o hc e => hs0.extBut _ _ (fun z => hc (by rw [z]; simp)) e
  have hTO0 : h0.get? (n + 4) = some { cls := .type "tuple", data := .seq #[u0, u1, u2] } := hs0.extBut _ _ (zaq (by omega)) hTO
  have hsz0 : h0.objs.size = s.heap.objs.size := hs0.1
  refine wpAny_bind ?_
  simp only [List.zipIdx_cons, List.zipIdx_nil, List.forIn_cons, List.forIn_nil]
  have j0_0 : zbm b0 h0 n a0 i := i0.extBut hs0.extBut (zaq (by omega))
  have p0_0 : zbf b0 h0 a0 xs0 := q0.extBut hs0.extBut (zaq (by omega))
  have j1_0 : zbm b1 h0 (n + 1) a1 i := i1.extBut hs0.extBut (zaq (by omega))
  have p1_0 : zbf b1 h0 a1 xs1 := q1.extBut hs0.extBut (zaq (by omega))
  have j2_0 : zbm b2 h0 (n + 2) a2 i := i2.extBut hs0.extBut (zaq (by omega))
  have p2_0 : zbf b2 h0 a2 xs2 := q2.extBut hs0.extBut (zaq (by omega))
  refine wpAny_bind (wpAny_bind (wpAny_onRaise ?_))
  show wpAny _ _ (Builtin.SmallTypes.nextOf (.ref n) >>= _) _ _ _
  refine wpAny_bind (zd8 j0_0 p0_0 e0 fun h1 j0_1 hs1 => wpAny_pure ?_)
  have hTO1 : h1.get? (n + 4) = some { cls := .type "tuple", data := .seq #[u0, u1, u2] } := hs1.extBut _ _ (zaq (by omega)) hTO0
  refine wpAny_bind (wpAny_seqItems hTO1 rfl ?_)
  refine wpAny_bind (zhs hTO1 (by simp) fun h2 hTO2 hs2 => ?_)
  replace hTO2 : h2.get? (n + 4) = some { cls := .type "tuple", data := .seq #[x0, u1, u2] } := hTO2
  have hz2 : IsZip h2 (n + 5) (n + 3) (n + 4) .ellipsis := hs2.extBut _ _ (zaq (by omega)) (hs1.extBut _ _ (zaq (by omega)) hz0)
  have k2 : ∀ c o, c ∉ [n, (n + 1), (n + 2), (n + 4), (n + 5)] -> s.heap.get? c = some o -> h2.get? c = some o := fun c o hc e => hs2.extBut _ _ (fun z => hc (by rw [z]; simp)) (hs1.extBut _ _ (fun z => hc (by rw [z]; simp)) (k0 c o hc e))
  have hsz2 : h2.objs.size = s.heap.objs.size := by rw [hs2.1, hs1.1, hsz0]
  have j0_2 : zbm b0 h2 n a0 (i + 1) := j0_1.extBut hs2.extBut (zaq (by omega))
  have p0_2 : zbf b0 h2 a0 xs0 := (p0_0.extBut hs1.extBut (zaq (by omega))).extBut hs2.extBut (zaq (by omega))
  have j1_2 : zbm b1 h2 (n + 1) a1 i := (j1_0.extBut hs1.extBut (zaq (by omega))).extBut hs2.extBut (zaq (by omega))
  have p1_2 : zbf b1 h2 a1 xs1 := (p1_0.extBut hs1.extBut (zaq (by omega))).extBut hs2.extBut (zaq (by omega))
  have j2_2 : zbm b2 h2 (n + 2) a2 i := (j2_0.extBut hs1.extBut (zaq (by omega))).extBut hs2.extBut (zaq (by omega))
  have p2_2 : zbf b2 h2 a2 xs2 := (p2_0.extBut hs1.extBut (zaq (by omega))).extBut hs2.extBut (zaq (by omega))
  refine wpAny_bind (wpAny_letGo (wpAny_pure ?_))
  refine wpAny_bind (wpAny_bind (wpAny_onRaise ?_))
  show wpAny _ _ (Builtin.SmallTypes.nextOf (.ref (n + 1)) >>= _) _ _ _
  refine wpAny_bind (zd8 j1_2 p1_2 e1 fun h3 j1_3 hs3 => wpAny_pure ?_)
  have hTO3 : h3.get? (n + 4) = some { cls := .type "tuple", data := .seq #[x0, u1, u2] } := hs3.extBut _ _ (zaq (by omega)) hTO2
  refine wpAny_bind (wpAny_seqItems hTO3 rfl ?_)
  refine wpAny_bind (zhs hTO3 (by simp) fun h4 hTO4 hs4 => ?_)
  replace hTO4 : h4.get? (n + 4) = some { cls := .type "tuple", data := .seq #[x0, x1, u2] } := hTO4
  have hz4 : IsZip h4 (n + 5) (n + 3) (n + 4) .ellipsis := hs4.extBut _ _ (zaq (by omega)) (hs3.extBut _ _ (zaq (by omega)) hz2)
  have k4 : ∀ c o, c ∉ [n, (n + 1), (n + 2), (n + 4), (n + 5)] -> s.heap.get? c = some o -> h4.get? c = some o := fun c o hc e => hs4.extBut _ _ (fun z => hc (by rw [z]; simp)) (hs3.extBut _ _ (fun z => hc (by rw [z]; simp)) (k2 c o hc e))
  have hsz4 : h4.objs.size = s.heap.objs.size := by rw [hs4.1, hs3.1, hsz2]
  have j0_4 : zbm b0 h4 n a0 (i + 1) := (j0_2.extBut hs3.extBut (zaq (by omega))).extBut hs4.extBut (zaq (by omega))
  have p0_4 : zbf b0 h4 a0 xs0 := (p0_2.extBut hs3.extBut (zaq (by omega))).extBut hs4.extBut (zaq (by omega))
  have j1_4 : zbm b1 h4 (n + 1) a1 (i + 1) := j1_3.extBut hs4.extBut (zaq (by omega))
  have p1_4 : zbf b1 h4 a1 xs1 := (p1_2.extBut hs3.extBut (zaq (by omega))).extBut hs4.extBut (zaq (by omega))
  have j2_4 : zbm b2 h4 (n + 2) a2 i := (j2_2.extBut hs3.extBut (zaq (by omega))).extBut hs4.extBut (zaq (by omega))
  have p2_4 : zbf b2 h4 a2 xs2 := (p2_2.extBut hs3.extBut (zaq (by omega))).extBut hs4.extBut (zaq (by omega))
  refine wpAny_bind (wpAny_letGo (wpAny_pure ?_))
  refine wpAny_bind (wpAny_bind (wpAny_onRaise ?_))
  show wpAny _ _ (Builtin.SmallTypes.nextOf (.ref (n + 2)) >>= _) _ _ _
  refine wpAny_bind (zd8 j2_4 p2_4 e2 fun h5 j2_5 hs5 => wpAny_pure ?_)
  have hTO5 : h5.get? (n + 4) = some { cls := .type "tuple", data := .seq #[x0, x1, u2] } := hs5.extBut _ _ (zaq (by omega)) hTO4
  refine wpAny_bind (wpAny_seqItems hTO5 rfl ?_)
  refine wpAny_bind (zhs hTO5 (by simp) fun h6 hTO6 hs6 => ?_)
  replace hTO6 : h6.get? (n + 4) = some { cls := .type "tuple", data := .seq #[x0, x1, x2] } := hTO6
  have hz6 : IsZip h6 (n + 5) (n + 3) (n + 4) .ellipsis := hs6.extBut _ _ (zaq (by omega)) (hs5.extBut _ _ (zaq (by omega)) hz4)
  have k6 : ∀ c o, c ∉ [n, (n + 1), (n + 2), (n + 4), (n + 5)] -> s.heap.get? c = some o -> h6.get? c = some o := fun c o hc e => hs6.extBut _ _ (fun z => hc (by rw [z]; simp)) (hs5.extBut _ _ (fun z => hc (by rw [z]; simp)) (k4 c o hc e))
  have hsz6 : h6.objs.size = s.heap.objs.size := by rw [hs6.1, hs5.1, hsz4]
  have j0_6 : zbm b0 h6 n a0 (i + 1) := (j0_4.extBut hs5.extBut (zaq (by omega))).extBut hs6.extBut (zaq (by omega))
  have p0_6 : zbf b0 h6 a0 xs0 := (p0_4.extBut hs5.extBut (zaq (by omega))).extBut hs6.extBut (zaq (by omega))
  have j1_6 : zbm b1 h6 (n + 1) a1 (i + 1) := (j1_4.extBut hs5.extBut (zaq (by omega))).extBut hs6.extBut (zaq (by omega))
  have p1_6 : zbf b1 h6 a1 xs1 := (p1_4.extBut hs5.extBut (zaq (by omega))).extBut hs6.extBut (zaq (by omega))
  have j2_6 : zbm b2 h6 (n + 2) a2 (i + 1) := j2_5.extBut hs6.extBut (zaq (by omega))
  have p2_6 : zbf b2 h6 a2 xs2 := (p2_4.extBut hs5.extBut (zaq (by omega))).extBut hs6.extBut (zaq (by omega))
  refine wpAny_bind (wpAny_letGo (wpAny_pure (wpAny_pure ?_)))
  refine wpAny_bind (wpAny_seqItems hTO6 rfl ?_)
  refine wpAny_bind (wpAny_newTuple ?_)
  have hzlt : (n + 5) < h6.objs.size := Heap.lt_size hz6
  show wpAny _ _ (Builtin.SmallTypes.ownedTupleHandOut (.ref (n + 5)) (.ref h6.objs.size) >>= _) _ _ _
  refine wpAny_bind ?_
  unfold Builtin.SmallTypes.ownedTupleHandOut
  have hz6 : IsZip (h6.push { cls := .type "tuple", data := .seq #[x0, x1, x2] }) (n + 5) (n + 3) (n + 4) .ellipsis := Heap.get?_push_of_some _ hz6
  refine wpAny_bind (wpAny_setField_rec hz6 (by simp) fun h7 hz7 hs7 => ?_)
  replace hz7 : IsZip h7 (n + 5) (n + 3) (n + 4) (rawInt h6.objs.size) := hz7
  refine wpAny_setField_rec hz7 (by simp) fun h8 hz8 hs8 => ?_
  replace hz8 : IsZip h8 (n + 5) (n + 3) (n + 4) (rawInt h6.objs.size) := hz8
  have up : ∀ c o, c ≠ (n + 5) -> h6.get? c = some o -> h8.get? c = some o := fun c o c1 e => hs8.extBut _ _ c1 (hs7.extBut _ _ c1 (Heap.get?_push_of_some _ e))
  have hT8 : h8.get? h6.objs.size = some { cls := .type "tuple", data := .seq #[x0, x1, x2] } := hs8.extBut _ _ (Nat.ne_of_gt hzlt) (hs7.extBut _ _ (Nat.ne_of_gt hzlt) (Heap.get?_push_size _ rfl))
  have hzz : h8.objs.size = h6.objs.size + 1 := by rw [hs8.1, hs7.1, Heap.size_push]
  rw [hsz6] at hz8 hT8 hzz
  refine wpAny_pure ⟨_, rfl, ?_⟩
  show Q (.ref h6.objs.size) _
  rw [hsz6]
  exact hQ h8 hz8 (up _ _ (zaq (by omega)) hTO6) (j0_6.at fun o e => up _ o (zaq (by omega)) e) (j1_6.at fun o e => up _ o (zaq (by omega)) e) (j2_6.at fun o e => up _ o (zaq (by omega)) e) hT8 hzz fun c o hc e => up c o (fun z => hc (by rw [z]; simp)) (k6 c o hc e)
theorem zwn {n i : Nat} {a0 a1 a2 : Nat} {b0 b1 b2 : Bool} {xs0 xs1 xs2 : Array Value} {u0 u1 u2 : Value} {Q : Fin -> Shared -> Prop} (hh : A.handled = none) (hn : a0 < n /\ a1 < n /\ a2 < n)
    (hz : IsZip s.heap (n + 5) (n + 3) (n + 4) .none) (hTI : s.heap.get? (n + 3) = some { cls := .type "tuple", data := .seq #[.ref n, .ref (n + 1), .ref (n + 2)] }) (hTO : s.heap.get? (n + 4) = some { cls := .type "tuple", data := .seq #[u0, u1, u2] })
    (i0 : zbm b0 s.heap n a0 i) (i1 : zbm b1 s.heap (n + 1) a1 i) (i2 : zbm b2 s.heap (n + 2) a2 i) (q0 : zbf b0 s.heap a0 xs0) (q1 : zbf b1 s.heap a1 xs1) (q2 : zbf b2 s.heap a2 xs2)
    (hend : xs0[i]? = none \/ xs1[i]? = none \/ xs2[i]? = none)
    (hE : ∀ h' e, (∀ c o, c ∉ [n, (n + 1), (n + 2), (n + 4), (n + 5)] -> s.heap.get? c = some o -> h'.get? c = some o) -> (∃ o, h'.get? e = some o /\ o.cls = .type "StopIteration") -> E (.ref e) { s with heap := h' }) :
    wpAny (model prog w) A (Builtin.«zip.__next__» ⟨[.ref (n + 5)], []⟩) Q E s := by
  obtain ⟨l0, l1, l2⟩ := hn
  show wpAny _ _ (field (.ref (n + 5)) 2 >>= _) _ _ _
  refine wpAny_bind (wpAny_field hz rfl (x := .bool false) rfl ?_)
  show wpAny _ _ (field (.ref (n + 5)) 3 >>= _) _ _ _
  refine wpAny_bind (wpAny_field hz rfl (x := .ref (n + 3)) rfl ?_)
  refine wpAny_bind (wpAny_seqItems hTI rfl ?_)
  show wpAny _ _ (Builtin.SmallTypes.ownedTupleIsFree (.ref (n + 5)) >>= _) _ _ _
  refine wpAny_bind ?_
  unfold Builtin.SmallTypes.ownedTupleIsFree
  refine wpAny_bind (wpAny_field hz rfl (x := .none) rfl (wpAny_pure ?_))
  simp only [if_true]
  refine wpAny_bind (wpAny_rule ?_)
  refine wpAny_bind (wpAny_field hz rfl (x := .ref (n + 4)) rfl ?_)
  refine wpAny_bind (wpAny_setField_rec hz (by simp) fun h0 hz0 hs0 => ?_)
  replace hz0 : IsZip h0 (n + 5) (n + 3) (n + 4) .ellipsis := hz0
  have k0 : ∀ c o, c ∉ [n, (n + 1), (n + 2), (n + 4), (n + 5)] -> s.heap.get? c = some o -> h0.get? c = some o := fun c o hc e => hs0.extBut _ _ (fun z => hc (by rw [z]; simp)) e
  have hTO0 : h0.get? (n + 4) = some { cls := .type "tuple", data := .seq #[u0, u1, u2] } := hs0.extBut _ _ (zaq (by omega)) hTO
  refine wpAny_bind ?_
  simp only [List.zipIdx_cons, List.zipIdx_nil, List.forIn_cons, List.forIn_nil]
  have j0_0 : zbm b0 h0 n a0 i := i0.extBut hs0.extBut (zaq (by omega))
  have p0_0 : zbf b0 h0 a0 xs0 := q0.extBut hs0.extBut (zaq (by omega))
  have j1_0 : zbm b1 h0 (n + 1) a1 i := i1.extBut hs0.extBut (zaq (by omega))
  have p1_0 : zbf b1 h0 a1 xs1 := q1.extBut hs0.extBut (zaq (by omega))
  have j2_0 : zbm b2 h0 (n + 2) a2 i := i2.extBut hs0.extBut (zaq (by omega))
  have p2_0 : zbf b2 h0 a2 xs2 := q2.extBut hs0.extBut (zaq (by omega))
  refine wpAny_bind (wpAny_bind (wpAny_onRaise ?_))
  show wpAny _ _ (Builtin.SmallTypes.nextOf (.ref n) >>= _) _ _ _
  cases e0 : xs0[i]? with
  | none =>
    refine wpAny_bind (zg3 hh j0_0 p0_0 e0 fun h1 e hs1 he => ?_)
    obtain ⟨oe, hoe, hce⟩ := he
    have hz1 : IsZip h1 (n + 5) (n + 3) (n + 4) .ellipsis := hs1 _ _ (zaq (by omega)) hz0
    have hez : e ≠ (n + 5) := fun x => by subst x; rw [hz1] at hoe; cases hoe; simp at hce
    exact wpAny_setField_rec hz1 (by simp) fun h2 _ hs2 => hE h2 e (fun c o hc x => hs2.extBut _ _ (fun z => hc (by rw [z]; simp)) (hs1 _ _ (fun z => hc (by rw [z]; simp)) (k0 c o hc x))) ⟨oe, hs2.extBut _ _ hez hoe, hce⟩
  | some x0 =>
    refine wpAny_bind (zd8 j0_0 p0_0 e0 fun h1 j0_1 hs1 => wpAny_pure ?_)
    have hTO1 : h1.get? (n + 4) = some { cls := .type "tuple", data := .seq #[u0, u1, u2] } := hs1.extBut _ _ (zaq (by omega)) hTO0
    refine wpAny_bind (wpAny_seqItems hTO1 rfl ?_)
    refine wpAny_bind (zhs hTO1 (by simp) fun h2 hTO2 hs2 => ?_)
    replace hTO2 : h2.get? (n + 4) = some { cls := .type "tuple", data := .seq #[x0, u1, u2] } := hTO2
    have hz2 : IsZip h2 (n + 5) (n + 3) (n + 4) .ellipsis := hs2.extBut _ _ (zaq (by omega)) (hs1.extBut _ _ (zaq (by omega)) hz0)
    have k2 : ∀ c o, c ∉ [n, (n + 1), (n + 2), (n + 4), (n + 5)] -> s.heap.get? c = some o -> h2.get? c = some o := fun c o hc e => hs2.extBut _ _ (fun z => hc (by rw [z]; simp)) (hs1.extBut _ _ (fun z => hc (by rw [z]; simp)) (k0 c o hc e))
    have j1_2 : zbm b1 h2 (n + 1) a1 i := (j1_0.extBut hs1.extBut (zaq (by omega))).extBut hs2.extBut (zaq (by omega))
    have p1_2 : zbf b1 h2 a1 xs1 := (p1_0.extBut hs1.extBut (zaq (by omega))).extBut hs2.extBut (zaq (by omega))
    have j2_2 : zbm b2 h2 (n + 2) a2 i := (j2_0.extBut hs1.extBut (zaq (by omega))).extBut hs2.extBut (zaq (by omega))
    have p2_2 : zbf b2 h2 a2 xs2 := (p2_0.extBut hs1.extBut (zaq (by omega))).extBut hs2.extBut (zaq (by omega))
    refine wpAny_bind (wpAny_letGo (wpAny_pure ?_))
    refine wpAny_bind (wpAny_bind (wpAny_onRaise ?_))
    show wpAny _ _ (Builtin.SmallTypes.nextOf (.ref (n + 1)) >>= _) _ _ _
    cases e1 : xs1[i]? with
    | none =>
      refine wpAny_bind (zg3 hh j1_2 p1_2 e1 fun h3 e hs3 he => ?_)
      obtain ⟨oe, hoe, hce⟩ := he
      have hz3 : IsZip h3 (n + 5) (n + 3) (n + 4) .ellipsis := hs3 _ _ (zaq (by omega)) hz2
      have hez : e ≠ (n + 5) := fun x => by subst x; rw [hz3] at hoe; cases hoe; simp at hce
      exact wpAny_setField_rec hz3 (by simp) fun h4 _ hs4 => hE h4 e (fun c o hc x => hs4.extBut _ _ (fun z => hc (by rw [z]; simp)) (hs3 _ _ (fun z => hc (by rw [z]; simp)) (k2 c o hc x))) ⟨oe, hs4.extBut _ _ hez hoe, hce⟩
    | some x1 =>
      refine wpAny_bind (zd8 j1_2 p1_2 e1 fun h3 j1_3 hs3 => wpAny_pure ?_)
      have hTO3 : h3.get? (n + 4) = some { cls := .type "tuple", data := .seq #[x0, u1, u2] } := hs3.extBut _ _ (zaq (by omega)) hTO2
      refine wpAny_bind (wpAny_seqItems hTO3 rfl ?_)
      refine wpAny_bind (zhs hTO3 (by simp) fun h4 hTO4 hs4 => ?_)
      replace hTO4 : h4.get? (n + 4) = some { cls := .type "tuple", data := .seq #[x0, x1, u2] } := hTO4
      have hz4 : IsZip h4 (n + 5) (n + 3) (n + 4) .ellipsis := hs4.extBut _ _ (zaq (by omega)) (hs3.extBut _ _ (zaq (by omega)) hz2)
      have k4 : ∀ c o, c ∉ [n, (n + 1), (n + 2), (n + 4), (n + 5)] -> s.heap.get? c = some o -> h4.get? c = some o := fun c o hc e => hs4.extBut _ _ (fun z => hc (by rw [z]; simp)) (hs3.extBut _ _ (fun z => hc (by rw [z]; simp)) (k2 c o hc e))
      have j2_4 : zbm b2 h4 (n + 2) a2 i := (j2_2.extBut hs3.extBut (zaq (by omega))).extBut hs4.extBut (zaq (by omega))
      have p2_4 : zbf b2 h4 a2 xs2 := (p2_2.extBut hs3.extBut (zaq (by omega))).extBut hs4.extBut (zaq (by omega))
      refine wpAny_bind (wpAny_letGo (wpAny_pure ?_))
      refine wpAny_bind (wpAny_bind (wpAny_onRaise ?_))
      show wpAny _ _ (Builtin.SmallTypes.nextOf (.ref (n + 2)) >>= _) _ _ _
      cases e2 : xs2[i]? with
      | none =>
        refine wpAny_bind (zg3 hh j2_4 p2_4 e2 fun h5 e hs5 he => ?_)
        obtain ⟨oe, hoe, hce⟩ := he
        have hz5 : IsZip h5 (n + 5) (n + 3) (n + 4) .ellipsis := hs5 _ _ (zaq (by omega)) hz4
        have hez : e ≠ (n + 5) := fun x => by subst x; rw [hz5] at hoe; cases hoe; simp at hce
        exact wpAny_setField_rec hz5 (by simp) fun h6 _ hs6 => hE h6 e (fun c o hc x => hs6.extBut _ _ (fun z => hc (by rw [z]; simp)) (hs5 _ _ (fun z => hc (by rw [z]; simp)) (k4 c o hc x))) ⟨oe, hs6.extBut _ _ hez hoe, hce⟩
      | some x2 =>
        exfalso
        rcases hend with h | h | h
        · rw [e0] at h; cases h
        · rw [e1] at h; cases h
        · rw [e2] at h; cases h
end
end LD
namespace LD
open PySem PySem.Spec PyProof.Rows L2
def SqB (K : PySem.W.Frag) (H : Hp) : Bool -> Addr -> List V -> Prop
  | true, a, xs => SqL K H a xs
  | false, a, xs => SqT K H a xs
def zgj : D -> Bool
  | .tup _ => false
  | _ => true
def zen : D -> Bool
  | .tup _ => true
  | .lst _ => true
  | .frz _ => true
  | .cell _ => true
  | _ => false
theorem ze1 {X : Cx} {pins : List (Addr × Obj)} {σ : L2.St} {H : Hp} {s : Shared} {b : Bool} {a : Addr} {xs : List V} (I : Inv X pins σ H s) (h : SqB X.K H b a xs) : ∃ its : List Value, Vals xs its /\ zbf b s.heap a its.toArray := by
  cases b with
  | true => obtain ⟨its, r, p, _⟩ := I.list h; exact ⟨its, r, p.isList⟩
  | false => obtain ⟨its, r, p, _⟩ := I.tuple h; exact ⟨its, r, p⟩
theorem zim {X : Cx} {pins : List (Addr × Obj)} {σ : L2.St} {H : Hp} {s : Shared} {b : Bool} {a : Addr} {xs ys : List V} (I : Inv X pins σ H s) (h : SqB X.K H b a xs) (h' : SqB X.K H b a ys) : xs = ys := by
  cases b with
  | true => exact I.list_inj h h'
  | false => exact I.tuple_inj h h'
theorem zjz {fa : Fa} {X : Cx} {μ : Mu} {H : Hp} {M : Mem} {d : D} {a : Addr} {ds : List D} (hM : RelM fa X.K μ H M) (h : Rep fa X.K μ H d (.ref a)) (e : zcm M d = some ds) : ∃ vs, SqB X.K H (zgj d) a vs /\ za6 fa X.K μ H ds vs := by
  cases d with
  | tup xs => cases e; obtain ⟨a', vs, e, s, r⟩ := h; cases e; exact ⟨vs, s, r⟩
  | lst xs => obtain ⟨a', vs, e', s, r⟩ := zcc hM h (show rdD M (.lst xs) = some ds from e); cases e'; exact ⟨vs, s, r⟩
  | frz xs => obtain ⟨a', vs, e', s, r⟩ := zcc hM h (show rdD M (.frz xs) = some ds from e); cases e'; exact ⟨vs, s, r⟩
  | cell k => obtain ⟨a', vs, e', s, r⟩ := zcc hM h (show rdD M (.cell k) = some ds from e); cases e'; exact ⟨vs, s, r⟩
  | _ => cases e
theorem zlu {fa : Fa} {X : Cx} {pins : List (Addr × Obj)} {σ : L2.St} {μ : Mu} {H : Hp} {s : Shared} {M : Mem} {d : D} {v : V} (I : Inv X pins σ H s) (hM : RelM fa X.K μ H M) (h : Rep fa X.K μ H d v) (e : zen d = true) : ∃ (a : Nat) (its : Array Value), v = .ref a /\ zbf (zgj d) s.heap a its := by
  have key : ∀ ds, zcm M d = some ds -> ∃ (a : Nat) (its : Array Value), v = .ref a /\ zbf (zgj d) s.heap a its := fun ds z => by
    obtain ⟨a, vs, rfl, _, _⟩ := zio hM h z
    obtain ⟨vs, s1, _⟩ := zjz hM h z
    obtain ⟨its, _, p⟩ := ze1 I s1
    exact ⟨a, its.toArray, rfl, p⟩
  cases d with
  | tup xs => exact key xs rfl
  | lst xs => exact key xs rfl
  | frz xs => exact key xs rfl
  | cell k =>
    obtain ⟨a, e, hk⟩ := id h
    obtain ⟨ds, _, z, _⟩ := hM.mu_lt hk
    exact key ds z
  | _ => cases e
theorem zbf.lt {b : Bool} {h : Heap} {a : Addr} {its : Array Value} (x : zbf b h a its) : a < h.objs.size := by
  cases b <;> (obtain ⟨o, ho, r⟩ := x; exact Heap.lt_size ho)
theorem zbf.push {b : Bool} {h : Heap} {a : Addr} {its : Array Value} (x : zbf b h a its) (ob : Obj) : zbf b (h.push ob) a its := by
  cases b <;> (obtain ⟨o, ho, r⟩ := x; exact ⟨o, Heap.get?_push_of_some _ ho, r⟩)
def zmx (b : Bool) (a : Addr) : Obj := { cls := .type (if b then "list_iterator" else "tuple_iterator"), data := .fields #[.ref a, .int 0 0] }
theorem zbm.new {b : Bool} {h : Heap} {it a : Addr} (e : h.get? it = some (zmx b a)) : zbm b h it a 0 := by
  cases b <;> exact ⟨_, e, rfl, rfl⟩
theorem zj1 {prog : Program} {w : World} {A : Around} {E : Value -> Shared -> Prop} {s : Shared} {b : Bool} {a : Addr} {its : Array Value} {Q : Value -> Shared -> Prop} (h : zbf b s.heap a its) (hQ : Q (.ref s.heap.objs.size) { s with heap := s.heap.push (zmx b a) }) : wpAny (model prog w) A (pyIter (.ref a)) Q E s := by
  cases b with
  | true => exact wpAny_pyIter_list h hQ
  | false => exact wpAny_pyIter_tuple h hQ
def Itz2 (K : PySem.W.Frag) (b0 : Bool) (a0 : Nat) (b1 : Bool) (a1 : Nat) : It :=
  ⟨fun i H => (∃ xs x, SqB K H b0 a0 xs /\ xs[i]? = some x) /\ (∃ xs x, SqB K H b1 a1 xs /\ xs[i]? = some x),
   fun i H v H' => ∃ p x0 x1, H p = none /\ v = .ref p /\ H' = upd H p (.tup [x0, x1]) /\ (∀ xs, SqB K H b0 a0 xs -> xs[i]? = some x0) /\ (∀ xs, SqB K H b1 a1 xs -> xs[i]? = some x1),
   fun i H => ∃ xs0 xs1, SqB K H b0 a0 xs0 /\ SqB K H b1 a1 xs1 /\ (xs0.length ≤ i \/ xs1.length ≤ i)⟩
def zna (n : Nat) (b0 : Bool) (a0 : Nat) (b1 : Bool) (a1 : Nat) (i : Nat) (h : Heap) (f0 : Value) : Prop := IsZip h (n + 4) (n + 2) (n + 3) f0 /\ h.get? (n + 2) = some { cls := .type "tuple", data := .seq #[.ref n, .ref (n + 1)] } /\ (∃ u0 u1, h.get? (n + 3) = some { cls := .type "tuple", data := .seq #[u0, u1] }) /\ zbm b0 h n a0 i /\ zbm b1 h (n + 1) a1 i
theorem zna.keep {n i : Nat} {a0 a1 : Nat} {b0 b1 : Bool} {h h' : Heap} {f0 : Value} (x : zna n b0 a0 b1 a1 i h f0) (k : ∀ b ∈ [(n + 4), n, (n + 1), (n + 2), (n + 3)], ∀ o, h.get? b = some o -> h'.get? b = some o) : zna n b0 a0 b1 a1 i h' f0 := by
  obtain ⟨h1, h2, ⟨u0, u1, h3⟩, j0, j1⟩ := x
  exact ⟨k _ (by simp) _ h1, k _ (by simp) _ h2, ⟨u0, u1, k _ (by simp) _ h3⟩, j0.at fun o e => k _ (by simp) o e, j1.at fun o e => k _ (by simp) o e⟩
theorem turn_zip2 {P : Program} {w : World} {K : PySem.W.Frag} {elts : List PySem.Expr} {kk : Nat} {pos : Pos} (n : Nat) (b0 : Bool) (a0 : Nat) (b1 : Bool) (a1 : Nat) (hn : a0 < n /\ a1 < n) :
    Turn P w K (.Tuple elts kk pos) (Itz2 K b0 a0 b1 a1) [(n + 4), n, (n + 1), (n + 2), (n + 3)] (n + 4) (fun i h => zna n b0 a0 b1 a1 i h .none) where
  mem := by simp
  obj := fun i h ⟨h1, h2, ⟨u0, u1, h3⟩, j0, j1⟩ b hb => by
    simp only [List.mem_cons, List.not_mem_nil, or_false] at hb
    rcases hb with z | z | z | z | z
    · subst z; exact ⟨_, h1, fun v z => by cases z⟩
    · subst z; exact j0.obj
    · subst z; exact j1.obj
    · subst z; exact ⟨_, h2, fun v z => by cases z⟩
    · subst z; exact ⟨_, h3, fun v z => by cases z⟩
  keep := fun i h h' st k => st.keep k
  item := by
    intro X hP hw hK hc i pins s σ H E I hf st hg
    subst hP hw hK
    obtain ⟨⟨xs0, x0, hq0, hx0⟩, ⟨xs1, x1, hq1, hx1⟩⟩ := hg
    obtain ⟨h1, h2, ⟨u0, u1, h3⟩, j0, j1⟩ := st
    obtain ⟨its0, rv0, p0⟩ := ze1 I hq0
    obtain ⟨w0, hw0, rw0⟩ := rv0.get hx0
    obtain ⟨its1, rv1, p1⟩ := ze1 I hq1
    obtain ⟨w1, hw1, rw1⟩ := rv1.get hx1
    have hT : s.TypeIs (.ref (n + 4)) "zip" := ⟨_, h1, rfl⟩
    unfold pyNext
    refine wpAny_bind (wpAny_attempt (wpAny_callSpecial?_slot (name := Str.ofString "__next__") hT F.slot_zip_next
      (wpAny_call_entry F.slot_zip_next hT F.entry_zip_next
        (zt9 (E := _) hn h1 h2 h3 j0 j1 p0 p1 (x0 := w0) (by simpa using hw0) (x1 := w1) (by simpa using hw1) fun h4 z1 z2 g0 g1 hTT hsz hk => wpAny_pure ⟨_, rfl, ?_⟩) (F.args_zip_next_1 _))))
    have hT0 : H s.heap.objs.size = none := I.hok.fresh (Nat.le_refl _)
    have zlt : (n + 4) < s.heap.objs.size := Heap.lt_size h1
    refine wpAny_letOwnedTupleGo_zip (s := { s with heap := h4 }) z1 fun h5 hz5 hs5 => ?_
    have hT5 : h5.get? s.heap.objs.size = some { cls := .type "tuple", data := .seq #[w0, w1] } := (hs5.2 _ (Nat.ne_of_gt zlt)).trans hTT
    refine ⟨.ref s.heap.objs.size, upd H s.heap.objs.size (.tup [x0, x1]), zkj (s := s) (t' := s.toks) I hf (fun b o hb q => (hs5.2 b (fun z => hb (by rw [z]; simp))).trans (hk b o (fun z => hb (by simp only [List.mem_cons, List.not_mem_nil, or_false] at z ⊢; rcases z with z | z | z | z <;> simp [z])) q)) (Nat.le_refl _) ⟨?_, [w0, w1], .cons rw0 (.cons rw1 (.nil)), ⟨_, hT5, rfl, _, rfl⟩⟩, rfl,
      ⟨_, x0, x1, hT0, rfl, rfl, fun ys hy => by rw [zim I hy hq0]; exact hx0, fun ys hy => by rw [zim I hy hq1]; exact hx1⟩, ⟨hz5, hs5.extBut _ _ (zaq (by omega)) (hk _ _ (by simp) h2), ⟨w0, w1, hs5.extBut _ _ (zaq (by omega)) z2⟩, g0.extBut hs5.extBut (zaq (by omega)), g1.extBut hs5.extBut (zaq (by omega))⟩, fun b hb => ?_⟩
    · show 2 ≤ sizeLine; decide
    · have : b < s.heap.objs.size := by
        have zl : (n + 4) < s.heap.objs.size := zlt
        simp only [List.mem_cons, List.not_mem_nil, or_false] at hb
        rcases hb with z | z | z | z | z <;> (rw [z]; (first | exact zl | exact Nat.lt_trans (by omega) zl))
      rw [zbd (Nat.ne_of_lt this)]; exact (hf b hb).1
  done := by
    intro X hP hw hK hc i pins s σ H E I hf st hg
    subst hP hw hK
    obtain ⟨xs0, xs1, hq0, hq1, hend⟩ := hg
    obtain ⟨h1, h2, ⟨u0, u1, h3⟩, j0, j1⟩ := st
    obtain ⟨its0, rv0, p0⟩ := ze1 I hq0
    have hl0 := rv0.length
    obtain ⟨its1, rv1, p1⟩ := ze1 I hq1
    have hl1 := rv1.length
    have hT : s.TypeIs (.ref (n + 4)) "zip" := ⟨_, h1, rfl⟩
    unfold pyNext
    refine wpAny_bind (wpAny_attempt (wpAny_callSpecial?_slot (name := Str.ofString "__next__") hT F.slot_zip_next
      (wpAny_call_entry F.slot_zip_next hT F.entry_zip_next (zwo (I.ok.hd hc) hn h1 h2 h3 j0 j1 p0 p1 (by
        rcases hend with z | z
        · exact .inl (by simp; omega)
        · exact .inr (by simp; omega)
        ) fun h' e hk he => ?_) (F.args_zip_next_1 _))))
    obtain ⟨o, ho, hcl⟩ := he
    refine wpAny_bind (wpAny_isInstance (T := "StopIteration") (b := true) ⟨o, ho, hcl⟩ isSubtype_stop ?_)
    exact wpAny_pure ⟨rfl, zne (s := s) I hf (t' := s.toks) fun b o hb q => hk b o (fun z => hb (by simp only [List.mem_cons, List.not_mem_nil, or_false] at z ⊢; rcases z with z | z | z | z <;> simp [z])) q⟩
  self := fun _ _ _ _ _ st h => wpAny_pyIter_zip st.1 h
def zipW2 (d0 d1 : D) : Walk := fun M => (zcm M d0).bind fun y0 => (zcm M d1).map fun y1 => zlm y0 y1
def ztv (g0 g1 : Env -> Mem -> Res D) : Env -> Mem -> Res Walk := fun ρ M => (g0 ρ M).bind fun d0 M => (g1 ρ M).bind fun d1 M => if zen d0 && zen d1 then .ok (zipW2 d0 d1) M else .bad
theorem zwm : ∀ (y0 y1 : List D) (i : Nat) (d : D), (zlm y0 y1)[i]? = some d ↔ ∃ e0 e1, y0[i]? = some e0 /\ y1[i]? = some e1 /\ d = .tup [e0, e1]
  | c0 :: t0, c1 :: t1, 0, d => by simp [zlm, eq_comm]
  | c0 :: t0, c1 :: t1, i + 1, d => by
    have := zwm t0 t1 i d
    simpa [zlm] using this
  | [], _, i, d => by simp [zlm]
  | _ :: _, [], i, d => by simp [zlm]
def Itz3 (K : PySem.W.Frag) (b0 : Bool) (a0 : Nat) (b1 : Bool) (a1 : Nat) (b2 : Bool) (a2 : Nat) : It :=
  ⟨fun i H => (∃ xs x, SqB K H b0 a0 xs /\ xs[i]? = some x) /\ (∃ xs x, SqB K H b1 a1 xs /\ xs[i]? = some x) /\ (∃ xs x, SqB K H b2 a2 xs /\ xs[i]? = some x),
   fun i H v H' => ∃ p x0 x1 x2, H p = none /\ v = .ref p /\ H' = upd H p (.tup [x0, x1, x2]) /\ (∀ xs, SqB K H b0 a0 xs -> xs[i]? = some x0) /\ (∀ xs, SqB K H b1 a1 xs -> xs[i]? = some x1) /\ (∀ xs, SqB K H b2 a2 xs -> xs[i]? = some x2),
   fun i H => ∃ xs0 xs1 xs2, SqB K H b0 a0 xs0 /\ SqB K H b1 a1 xs1 /\ SqB K H b2 a2 xs2 /\ (xs0.length ≤ i \/ xs1.length ≤ i \/ xs2.length ≤ i)⟩
def zk0 (n : Nat) (b0 : Bool) (a0 : Nat) (b1 : Bool) (a1 : Nat) (b2 : Bool) (a2 : Nat) (i : Nat) (h : Heap) (f0 : Value) : Prop := IsZip h (n + 5) (n + 3) (n + 4) f0 /\ h.get? (n + 3) = some { cls := .type "tuple", data := .seq #[.ref n, .ref (n + 1), .ref (n + 2)] } /\ (∃ u0 u1 u2, h.get? (n + 4) = some { cls := .type "tuple", data := .seq #[u0, u1, u2] }) /\ zbm b0 h n a0 i /\ zbm b1 h (n + 1) a1 i /\ zbm b2 h (n + 2) a2 i
theorem zk0.keep {n i : Nat} {a0 a1 a2 : Nat} {b0 b1 b2 : Bool} {h h' : Heap} {f0 : Value} (x : zk0 n b0 a0 b1 a1 b2 a2 i h f0) (k : ∀ b ∈ [(n + 5), n, (n + 1), (n + 2), (n + 3), (n + 4)], ∀ o, h.get? b = some o -> h'.get? b = some o) : zk0 n b0 a0 b1 a1 b2 a2 i h' f0 := by
  obtain ⟨h1, h2, ⟨u0, u1, u2, h3⟩, j0, j1, j2⟩ := x
  exact ⟨k _ (by simp) _ h1, k _ (by simp) _ h2, ⟨u0, u1, u2, k _ (by simp) _ h3⟩, j0.at fun o e => k _ (by simp) o e, j1.at fun o e => k _ (by simp) o e, j2.at fun o e => k _ (by simp) o e⟩
theorem zuf {P : Program} {w : World} {K : PySem.W.Frag} {elts : List PySem.Expr} {kk : Nat} {pos : Pos} (n : Nat) (b0 : Bool) (a0 : Nat) (b1 : Bool) (a1 : Nat) (b2 : Bool) (a2 : Nat) (hn : a0 < n /\ a1 < n /\ a2 < n) :
    Turn P w K (.Tuple elts kk pos) (Itz3 K b0 a0 b1 a1 b2 a2) [(n + 5), n, (n + 1), (n + 2), (n + 3), (n + 4)] (n + 5) (fun i h => zk0 n b0 a0 b1 a1 b2 a2 i h .none) where
  mem := by simp
  obj := fun i h ⟨h1, h2, ⟨u0, u1, u2, h3⟩, j0, j1, j2⟩ b hb => by
    simp only [List.mem_cons, List.not_mem_nil, or_false] at hb
    rcases hb with z | z | z | z | z | z
    · subst z; exact ⟨_, h1, fun v z => by cases z⟩
    · subst z; exact j0.obj
    · subst z; exact j1.obj
    · subst z; exact j2.obj
    · subst z; exact ⟨_, h2, fun v z => by cases z⟩
    · subst z; exact ⟨_, h3, fun v z => by cases z⟩
  keep := fun i h h' st k => st.keep k
  item := by
    intro X hP hw hK hc i pins s σ H E I hf st hg
    subst hP hw hK
    obtain ⟨⟨xs0, x0, hq0, hx0⟩, ⟨xs1, x1, hq1, hx1⟩, ⟨xs2, x2, hq2, hx2⟩⟩ := hg
    obtain ⟨h1, h2, ⟨u0, u1, u2, h3⟩, j0, j1, j2⟩ := st
    obtain ⟨its0, rv0, p0⟩ := ze1 I hq0
    obtain ⟨w0, hw0, rw0⟩ := rv0.get hx0
    obtain ⟨its1, rv1, p1⟩ := ze1 I hq1
    obtain ⟨w1, hw1, rw1⟩ := rv1.get hx1
    obtain ⟨its2, rv2, p2⟩ := ze1 I hq2
    obtain ⟨w2, hw2, rw2⟩ := rv2.get hx2
    have hT : s.TypeIs (.ref (n + 5)) "zip" := ⟨_, h1, rfl⟩
    unfold pyNext
    refine wpAny_bind (wpAny_attempt (wpAny_callSpecial?_slot (name := Str.ofString "__next__") hT F.slot_zip_next
      (wpAny_call_entry F.slot_zip_next hT F.entry_zip_next
        (zt8 (E := _) hn h1 h2 h3 j0 j1 j2 p0 p1 p2 (x0 := w0) (by simpa using hw0) (x1 := w1) (by simpa using hw1) (x2 := w2) (by simpa using hw2) fun h4 z1 z2 g0 g1 g2 hTT hsz hk => wpAny_pure ⟨_, rfl, ?_⟩) (F.args_zip_next_1 _))))
    have hT0 : H s.heap.objs.size = none := I.hok.fresh (Nat.le_refl _)
    have zlt : (n + 5) < s.heap.objs.size := Heap.lt_size h1
    refine wpAny_letOwnedTupleGo_zip (s := { s with heap := h4 }) z1 fun h5 hz5 hs5 => ?_
    have hT5 : h5.get? s.heap.objs.size = some { cls := .type "tuple", data := .seq #[w0, w1, w2] } := (hs5.2 _ (Nat.ne_of_gt zlt)).trans hTT
    refine ⟨.ref s.heap.objs.size, upd H s.heap.objs.size (.tup [x0, x1, x2]), zkj (s := s) (t' := s.toks) I hf (fun b o hb q => (hs5.2 b (fun z => hb (by rw [z]; simp))).trans (hk b o (fun z => hb (by simp only [List.mem_cons, List.not_mem_nil, or_false] at z ⊢; rcases z with z | z | z | z | z <;> simp [z])) q)) (Nat.le_refl _) ⟨?_, [w0, w1, w2], .cons rw0 (.cons rw1 (.cons rw2 (.nil))), ⟨_, hT5, rfl, _, rfl⟩⟩, rfl,
      ⟨_, x0, x1, x2, hT0, rfl, rfl, fun ys hy => by rw [zim I hy hq0]; exact hx0, fun ys hy => by rw [zim I hy hq1]; exact hx1, fun ys hy => by rw [zim I hy hq2]; exact hx2⟩, ⟨hz5, hs5.extBut _ _ (zaq (by omega)) (hk _ _ (by simp) h2), ⟨w0, w1, w2, hs5.extBut _ _ (zaq (by omega)) z2⟩, g0.extBut hs5.extBut (zaq (by omega)), g1.extBut hs5.extBut (zaq (by omega)), g2.extBut hs5.extBut (zaq (by omega))⟩, fun b hb => ?_⟩
    · show 3 ≤ sizeLine; decide
    · have : b < s.heap.objs.size := by
        have zl : (n + 5) < s.heap.objs.size := zlt
        simp only [List.mem_cons, List.not_mem_nil, or_false] at hb
        rcases hb with z | z | z | z | z | z <;> (rw [z]; (first | exact zl | exact Nat.lt_trans (by omega) zl))
      rw [zbd (Nat.ne_of_lt this)]; exact (hf b hb).1
  done := by
    intro X hP hw hK hc i pins s σ H E I hf st hg
    subst hP hw hK
    obtain ⟨xs0, xs1, xs2, hq0, hq1, hq2, hend⟩ := hg
    obtain ⟨h1, h2, ⟨u0, u1, u2, h3⟩, j0, j1, j2⟩ := st
    obtain ⟨its0, rv0, p0⟩ := ze1 I hq0
    have hl0 := rv0.length
    obtain ⟨its1, rv1, p1⟩ := ze1 I hq1
    have hl1 := rv1.length
    obtain ⟨its2, rv2, p2⟩ := ze1 I hq2
    have hl2 := rv2.length
    have hT : s.TypeIs (.ref (n + 5)) "zip" := ⟨_, h1, rfl⟩
    unfold pyNext
    refine wpAny_bind (wpAny_attempt (wpAny_callSpecial?_slot (name := Str.ofString "__next__") hT F.slot_zip_next
      (wpAny_call_entry F.slot_zip_next hT F.entry_zip_next (zwn (I.ok.hd hc) hn h1 h2 h3 j0 j1 j2 p0 p1 p2 (by
        rcases hend with z | z | z
        · exact .inl (by simp; omega)
        · exact (.inr ∘ .inl) (by simp; omega)
        · exact (.inr ∘ .inr) (by simp; omega)
        ) fun h' e hk he => ?_) (F.args_zip_next_1 _))))
    obtain ⟨o, ho, hcl⟩ := he
    refine wpAny_bind (wpAny_isInstance (T := "StopIteration") (b := true) ⟨o, ho, hcl⟩ isSubtype_stop ?_)
    exact wpAny_pure ⟨rfl, zne (s := s) I hf (t' := s.toks) fun b o hb q => hk b o (fun z => hb (by simp only [List.mem_cons, List.not_mem_nil, or_false] at z ⊢; rcases z with z | z | z | z | z <;> simp [z])) q⟩
  self := fun _ _ _ _ _ st h => wpAny_pyIter_zip st.1 h
abbrev zl8 (h : Heap) (b0 : Bool) (a0 : Nat) (b1 : Bool) (a1 : Nat) (b2 : Bool) (a2 : Nat) : Heap := h.push (zmx b0 a0)
abbrev zl7 (h : Heap) (b0 : Bool) (a0 : Nat) (b1 : Bool) (a1 : Nat) (b2 : Bool) (a2 : Nat) : Heap := (zl8 h b0 a0 b1 a1 b2 a2).push (zmx b1 a1)
abbrev zpk (h : Heap) (b0 : Bool) (a0 : Nat) (b1 : Bool) (a1 : Nat) (b2 : Bool) (a2 : Nat) : Heap := (zl7 h b0 a0 b1 a1 b2 a2).push (zmx b2 a2)
abbrev zpj (h : Heap) (b0 : Bool) (a0 : Nat) (b1 : Bool) (a1 : Nat) (b2 : Bool) (a2 : Nat) : Heap := (zpk h b0 a0 b1 a1 b2 a2).push { cls := .type "tuple", data := .seq #[.ref h.objs.size, .ref (zl8 h b0 a0 b1 a1 b2 a2).objs.size, .ref (zl7 h b0 a0 b1 a1 b2 a2).objs.size] }
abbrev zpi (h : Heap) (b0 : Bool) (a0 : Nat) (b1 : Bool) (a1 : Nat) (b2 : Bool) (a2 : Nat) : Heap := (zpj h b0 a0 b1 a1 b2 a2).push { cls := .type "tuple", data := .seq #[.none, .none, .none] }
abbrev zix (h : Heap) (b0 : Bool) (a0 : Nat) (b1 : Bool) (a1 : Nat) (b2 : Bool) (a2 : Nat) : Heap := (zpi h b0 a0 b1 a1 b2 a2).push { cls := .type "zip", data := .fields #[.none, .bool false, .bool false, .ref (zpk h b0 a0 b1 a1 b2 a2).objs.size, .ref (zpj h b0 a0 b1 a1 b2 a2).objs.size] }
theorem ztn (b0 : Bool) (a0 : Nat) (b1 : Bool) (a1 : Nat) (b2 : Bool) (a2 : Nat) (xs0 xs1 xs2 : Array Value) :
    Meets (Builtin.«zip.__new__» ⟨[.type "zip", .ref a0, .ref a1, .ref a2], []⟩) (fun _ R s => zbf b0 s.heap a0 xs0 /\ zbf b1 s.heap a1 xs1 /\ zbf b2 s.heap a2 xs2 /\
      R (.ok (.ret (.ref (zpi s.heap b0 a0 b1 a1 b2 a2).objs.size))) { s with heap := zix s.heap b0 a0 b1 a1 b2 a2 }) :=
  .of_wp fun prog w A R s h => by
    obtain ⟨hp, g, d, tk, os⟩ := s; obtain ⟨q0, q1, q2, h⟩ := h
    have hsub := sub_zip
    have L0 : zbf b0 (Shared.heap ⟨hp, g, d, tk, os⟩) a0 xs0 := q0
    have L1 : zbf b1 (Shared.heap ⟨(zl8 hp b0 a0 b1 a1 b2 a2), g, d, tk, os⟩) a1 xs1 := (q1).push _
    have L2 : zbf b2 (Shared.heap ⟨(zl7 hp b0 a0 b1 a1 b2 a2), g, d, tk, os⟩) a2 xs2 := ((q2).push _).push _
    wp_walk using zj1 L0, zj1 L1, zj1 L2
    exact ⟨_, rfl, h⟩
theorem znd (a b c : Value) : checkTypeCall "zip" ⟨[a, b, c], []⟩ = pure () := by kernel_rfl
theorem zpe (a b c : Value) : checkBuiltinCall "zip.__new__" ⟨[.type "zip", a, b, c], []⟩ = pure () := by kernel_rfl
theorem zkz (a b c d : Value) : argsOk "object.__init__" ⟨[a, b, c, d], []⟩ := by
  unfold argsOk; rw [signature?_of (id := "object.__init__") (n := ['_', '_', 't', 'i', 'n', 'i', '_', '_']) (o := ['t', 'c', 'e', 'j', 'b', 'o']) (by kernel_rfl) F.owner_object]; kernel_rfl
theorem zwd {prog : Program} {w : World} {A : Around} {E : Value -> Shared -> Prop} {s : Shared} {a0 a1 a2 : Nat} {b0 b1 b2 : Bool} {xs0 xs1 xs2 : Array Value} {Q : Value -> Shared -> Prop} (q0 : zbf b0 s.heap a0 xs0) (q1 : zbf b1 s.heap a1 xs1) (q2 : zbf b2 s.heap a2 xs2)
    (h : ∀ h', zk0 s.heap.objs.size b0 a0 b1 a1 b2 a2 0 h' .none -> (∀ c o, s.heap.get? c = some o -> h'.get? c = some o) -> Q (.ref (s.heap.objs.size + 5)) { s with heap := h' }) :
    wpAny (model prog w) A (call (.type "zip") [.ref a0, .ref a1, .ref a2]) Q E s := by
  refine callType_new F.called_zip (by decide) (znd _ _ _) (zpe _ _ _) (fun obj => zkz obj _ _ _) F.entry_zip_new (ztn b0 a0 b1 a1 b2 a2 xs0 xs1 xs2) ⟨q0, q1, q2, ?_⟩
  have z1 : (zl8 s.heap b0 a0 b1 a1 b2 a2).objs.size = s.heap.objs.size + 1 := by rw [Heap.size_push]
  have z2 : (zl7 s.heap b0 a0 b1 a1 b2 a2).objs.size = s.heap.objs.size + 2 := by rw [Heap.size_push, z1]
  have z3 : (zpk s.heap b0 a0 b1 a1 b2 a2).objs.size = s.heap.objs.size + 3 := by rw [Heap.size_push, z2]
  have z4 : (zpj s.heap b0 a0 b1 a1 b2 a2).objs.size = s.heap.objs.size + 4 := by rw [Heap.size_push, z3]
  have z5 : (zpi s.heap b0 a0 b1 a1 b2 a2).objs.size = s.heap.objs.size + 5 := by rw [Heap.size_push, z4]
  have z6 : (zix s.heap b0 a0 b1 a1 b2 a2).objs.size = s.heap.objs.size + 6 := by rw [Heap.size_push, z5]
  have g1 : (zix s.heap b0 a0 b1 a1 b2 a2).get? s.heap.objs.size = some _ := Heap.get?_push_of_some _ (Heap.get?_push_of_some _ (Heap.get?_push_of_some _ (Heap.get?_push_of_some _ (Heap.get?_push_of_some _ (Heap.get?_push_size _ rfl)))))
  have g2 : (zix s.heap b0 a0 b1 a1 b2 a2).get? (zl8 s.heap b0 a0 b1 a1 b2 a2).objs.size = some _ := Heap.get?_push_of_some _ (Heap.get?_push_of_some _ (Heap.get?_push_of_some _ (Heap.get?_push_of_some _ (Heap.get?_push_size _ rfl))))
  have g3 : (zix s.heap b0 a0 b1 a1 b2 a2).get? (zl7 s.heap b0 a0 b1 a1 b2 a2).objs.size = some _ := Heap.get?_push_of_some _ (Heap.get?_push_of_some _ (Heap.get?_push_of_some _ (Heap.get?_push_size _ rfl)))
  have g4 : (zix s.heap b0 a0 b1 a1 b2 a2).get? (zpk s.heap b0 a0 b1 a1 b2 a2).objs.size = some _ := Heap.get?_push_of_some _ (Heap.get?_push_of_some _ (Heap.get?_push_size _ rfl))
  have g5 : (zix s.heap b0 a0 b1 a1 b2 a2).get? (zpj s.heap b0 a0 b1 a1 b2 a2).objs.size = some _ := Heap.get?_push_of_some _ (Heap.get?_push_size _ rfl)
  have g6 : (zix s.heap b0 a0 b1 a1 b2 a2).get? (zpi s.heap b0 a0 b1 a1 b2 a2).objs.size = some _ := Heap.get?_push_size _ rfl
  show _ /\ _
  rw [z1] at g2
  rw [z2] at g3
  rw [z3] at g4
  rw [z4] at g5
  rw [z5] at g6
  rw [z1, z2] at g4
  rw [z3, z4] at g6
  rw [z5]
  exact ⟨⟨_, g6, rfl⟩, h _ ⟨g6, g4, ⟨_, _, _, g5⟩, zbm.new g1, zbm.new g2, zbm.new g3⟩ fun c o x => Heap.get?_push_of_some _ (Heap.get?_push_of_some _ (Heap.get?_push_of_some _ (Heap.get?_push_of_some _ (Heap.get?_push_of_some _ (Heap.get?_push_of_some _ (x))))))⟩
def zk1 (d0 d1 d2 : D) : Walk := fun M => (zcm M d0).bind fun y0 => (zcm M d1).bind fun y1 => (zcm M d2).map fun y2 => zf7 y0 y1 y2
def zpn (g0 g1 g2 : Env -> Mem -> Res D) : Env -> Mem -> Res Walk := fun ρ M => (g0 ρ M).bind fun d0 M => (g1 ρ M).bind fun d1 M => (g2 ρ M).bind fun d2 M => if zen d0 && zen d1 && zen d2 then .ok (zk1 d0 d1 d2) M else .bad
theorem zoc : ∀ (y0 y1 y2 : List D) (i : Nat) (d : D), (zf7 y0 y1 y2)[i]? = some d ↔ ∃ e0 e1 e2, y0[i]? = some e0 /\ y1[i]? = some e1 /\ y2[i]? = some e2 /\ d = .tup [e0, e1, e2]
  | c0 :: t0, c1 :: t1, c2 :: t2, 0, d => by simp [zf7, eq_comm]
  | c0 :: t0, c1 :: t1, c2 :: t2, i + 1, d => by
    have := zoc t0 t1 t2 i d
    simpa [zf7] using this
  | [], _, _, i, d => by simp [zf7]
  | _ :: _, [], _, i, d => by simp [zf7]
  | _ :: _, _ :: _, [], i, d => by simp [zf7]
theorem zob : ∀ (y0 y1 y2 : List D) (i : Nat), (zf7 y0 y1 y2).length ≤ i -> y0.length ≤ i \/ y1.length ≤ i \/ y2.length ≤ i
  | c0 :: t0, c1 :: t1, c2 :: t2, 0, h => by simp [zf7] at h
  | c0 :: t0, c1 :: t1, c2 :: t2, i + 1, h => by
    have := zob t0 t1 t2 i (by simpa [zf7] using h)
    simpa using this
  | [], _, _, i, h => by simp
  | _ :: _, [], _, i, h => by simp
  | _ :: _, _ :: _, [], i, h => by simp
theorem zua {fa : Fa} {X : Cx} {μ0 : Mu} {H0 : Hp} {d0 d1 d2 : D} {a0 a1 a2 : Nat} (r0 : Rep fa X.K μ0 H0 d0 (.ref a0)) (r1 : Rep fa X.K μ0 H0 d1 (.ref a1)) (r2 : Rep fa X.K μ0 H0 d2 (.ref a2)) : ze7 fa X.K μ0 H0 (zk1 d0 d1 d2) (Itz3 X.K (zgj d0) a0 (zgj d1) a1 (zgj d2) a2) := fun μ H M ds x hM e => by
  unfold zk1 at e
  cases s0 : zcm M d0 with
  | none => simp [s0] at e
  | some y0 =>
  cases s1 : zcm M d1 with
  | none => simp [s0, s1] at e
  | some y1 =>
  cases s2 : zcm M d2 with
  | none => simp [s0, s1, s2] at e
  | some y2 =>
  simp only [s0, s1, s2, Option.bind_some, Option.map_some, Option.some.injEq] at e
  subst e
  obtain ⟨v0, q0, l0⟩ := zjz hM (Rep.extW x r0) s0
  obtain ⟨v1, q1, l1⟩ := zjz hM (Rep.extW x r1) s1
  obtain ⟨v2, q2, l2⟩ := zjz hM (Rep.extW x r2) s2
  refine ⟨fun i d hd => ?_, fun i hi => ⟨v0, v1, v2, q0, q1, q2, ?_⟩⟩
  · obtain ⟨e0, e1, e2, h0, h1, h2, rfl⟩ := (zoc y0 y1 y2 i d).mp hd
    obtain ⟨w0, hw0, rw0⟩ := l0.get h0
    obtain ⟨w1, hw1, rw1⟩ := l1.get h1
    obtain ⟨w2, hw2, rw2⟩ := l2.get h2
    refine ⟨⟨⟨v0, w0, q0, hw0⟩, ⟨v1, w1, q1, hw1⟩, ⟨v2, w2, q2, hw2⟩⟩, fun y H' ⟨p, x0, x1, x2, hp, ey, eH, t0, t1, t2⟩ => ?_⟩
    have z0 := t0 v0 q0
    rw [hw0] at z0; cases z0
    have z1 := t1 v1 q1
    rw [hw1] at z1; cases z1
    have z2 := t2 v2 q2
    rw [hw2] at z2; cases z2
    subst eH ey
    exact ⟨Ext.alloc hM hp, hM.alloc hp, p, [w0, w1, w2], rfl, .inl (.inl zc5), ⟨w0, [w1, w2], rfl, rw0.ext (Ext.alloc hM hp), ⟨w1, [w2], rfl, rw1.ext (Ext.alloc hM hp), ⟨w2, [], rfl, rw2.ext (Ext.alloc hM hp), rfl⟩⟩⟩⟩
  · rcases zob y0 y1 y2 i hi with z | z | z
    · exact .inl (by rw [l0.length]; exact z)
    · exact (.inr ∘ .inl) (by rw [l1.length]; exact z)
    · exact (.inr ∘ .inr) (by rw [l2.length]; exact z)
theorem z0o {fa : Fa} {X : Cx} {elts : List PySem.Expr} {kk : Nat} {tp p pos : Pos} {e0 e1 e2 : PySem.Expr} {g0 g1 g2 : Env -> Mem -> Res D} (h0 : DE fa X e0 g0) (h1 : DE fa X e1 g1) (h2 : DE fa X e2 g2) (hg : Gl X "zip") (hm : X.mg "zip" = none)
    (hs0 : starEach [e0, e1, e2] X.env = [(false, eval e0 X.env), (false, eval e1 X.env), (false, eval e2 X.env)]) (hs1 : starEach [e1, e2] X.env = [(false, eval e1 X.env), (false, eval e2 X.env)]) (hs2 : starEach [e2] X.env = [(false, eval e2 X.env)]) : DI fa X (.Tuple elts kk tp) (.Call (.Name "zip" p) [e0, e1, e2] [] pos) (zpn g0 g1 g2) := by
  intro pins s σ H R I ⟨μ, ρ, M, hE, hM, h⟩
  obtain ⟨d0, M0, c0, t0⟩ := zbl h
  obtain ⟨d1, M1, c1, t1⟩ := zbl t0
  obtain ⟨d2, M2, c2, t2⟩ := zbl t1
  split at t2
  · next hsq =>
    simp only [Bool.and_eq_true, and_assoc] at hsq
    obtain ⟨hq0, hq1, hq2⟩ := hsq
    refine Call_ (zhy I hg hm boot_zip (PyProof.Rows.callWith_type1 (thn (ze3 h0 (ze3 h1 (ze3 h2 zhv hs2) (by rw [hs1, hs2])) (by rw [hs0, hs1]) pos pins s σ H (fun vs H1 => ∃ v0 v1 v2 μ1, vs = [v0, v1, v2] /\ Ext μ H μ1 H1 /\ RelM fa X.K μ1 H1 M2 /\ Rep fa X.K μ1 H1 d0 v0 /\ Rep fa X.K μ1 H1 d1 v1 /\ Rep fa X.K μ1 H1 d2 v2) I ?_) fun us s1 ⟨vs, H1, I1, r1, v0, v1, v2, μ1, ev, x1, m1, rv0, rv1, rv2⟩ => ?_) (by rw [hs0, hs1]) (by rw [hs1]; rfl)))
    · refine ⟨μ, ρ, M, hE, hM, ?_⟩
      rw [c0]
      intro v0 H1 μ1 x1 m1 r0
      refine ⟨μ1, ρ, M0, (hE.ext x1), m1, ?_⟩
      rw [c1]
      intro v1 H2 μ2 x2 m2 r1
      refine ⟨μ2, ρ, M1, ((hE.ext x1).ext x2), m2, ?_⟩
      rw [c2]
      intro v2 H3 μ3 x3 m3 r2
      exact ⟨v0, v1, v2, μ3, rfl, ((x1.trans x2).trans x3), m3, ((r0.ext x2).ext x3), (r1.ext x3), r2⟩
    subst ev
    obtain ⟨a0, its0, rfl, z0⟩ := zlu I1 m1 rv0 hq0
    obtain ⟨a1, its1, rfl, z1⟩ := zlu I1 m1 rv1 hq1
    obtain ⟨a2, its2, rfl, z2⟩ := zlu I1 m1 rv2 hq2
    cases r1 with
    | cons y0 r1 =>
      cases r1 with
      | cons y1 r1 =>
        cases r1 with
        | cons y2 r1 =>
          cases r1
          obtain rfl := y0
          obtain rfl := y1
          obtain rfl := y2
          refine zwd z0 z1 z2 fun h1 za hk => ?_
          have I2 : Inv X pins σ H1 { s1 with heap := h1 } := I1.kept (t' := s1.toks) hk
          refine wpAny_pyIter_zip (s := { s1 with heap := h1 }) za.1 ?_
          refine ⟨s1.heap.objs.size + 5, [s1.heap.objs.size + 5, s1.heap.objs.size, s1.heap.objs.size + 1, s1.heap.objs.size + 2, s1.heap.objs.size + 3, s1.heap.objs.size + 4], _, _, H1, rfl, I2, zuf s1.heap.objs.size (zgj d0) a0 (zgj d1) a1 (zgj d2) a2 ⟨z0.lt, z1.lt, z2.lt⟩, za, fun b hb => ?_, t2 _ H1 μ1 x1 m1 (zua rv0 rv1 rv2)⟩
          have hb : s1.heap.objs.size ≤ b := by
            simp only [List.mem_cons, List.not_mem_nil, or_false] at hb
            rcases hb with z | z | z | z | z | z <;> (rw [z]; first | exact Nat.le_refl _ | exact Nat.le_add_right _ _)
          exact I1.fpOk hb (I1.hok.fresh hb)
  · exact t2.elim
end LD
namespace LD
open PySem PySem.Spec PyProof.Rows L2
abbrev GE := Env -> Mem -> Res D
abbrev GT := Env -> Mem -> Res Bool
abbrev GA := Env -> Mem -> Res (List D)
abbrev GW := Env -> Mem -> Res Walk
abbrev GS := Env -> Mem -> Res Fl
abbrev GB := Env -> List D -> Mem -> Res (List D)
abbrev Call := Nat -> List D -> Mem -> Res D
def zaa (i : Nat) : GE := fun ρ M => ofO M (ρ[i]?.getD none)
def gC (d : D) : GE := fun _ M => .ok d M
def zav (m : Bool) (o : Bin) (a b : GE) : GE := fun ρ M => (a ρ M).bind fun x M => (b ρ M).bind fun y M => zey m o x y M
def zbb (o : Cmp) (a b : GE) : GE := fun ρ M => (a ρ M).bind fun x M => (b ρ M).bind fun y M => (ofO M (zb2 o x y M)).bind fun b M => .ok (.bl b) M
def gChn (o o' : Cmp) (a b c : GE) : GE := fun ρ M => (a ρ M).bind fun x M => (b ρ M).bind fun y M => (ofO M (zb2 o x y M)).bind fun k M =>
  if k then (c ρ M).bind fun z M => (ofO M (zb2 o' y z M)).bind fun b M => .ok (.bl b) M else .ok (.bl false) M
def ziv (a : GE) : GE := fun ρ M => (a ρ M).bind fun x M => match x with | .int i => .ok (.int (-i)) M | _ => .bad
def ze5 (a b : GE) : GE := fun ρ M => (a ρ M).bind fun x M => match x with | .bl true => b ρ M | .bl false => .ok (.bl false) M | _ => .bad
def gOr (a b : GE) : GE := fun ρ M => (a ρ M).bind fun x M => match x with | .bl true => .ok (.bl true) M | .bl false => b ρ M | _ => .bad
def gNot (a : GE) : GE := fun ρ M => (a ρ M).bind fun x M => match x with | .bl k => .ok (.bl (!k)) M | _ => .bad
def zh4 (t : GT) (a b : GE) : GE := fun ρ M => (t ρ M).bind fun k M => if k then a ρ M else b ρ M
def za2 (a b : GE) : GE := fun ρ M => (a ρ M).bind fun x M => (b ρ M).bind fun y M => ofO M (zcp x y M)
def zdm (m hl hh : Bool) (a lo hi : GE) : GE := fun ρ M => (a ρ M).bind fun x M => (lo ρ M).bind fun l M => (hi ρ M).bind fun h M => if zcv hl l && zcv hh h then zb7 m x l h M else .bad
def zah : GA := fun _ M => .ok [] M
def zab (a : GE) (s : GA) : GA := fun ρ M => (a ρ M).bind fun x M => (s ρ M).bind fun xs M => .ok (x :: xs) M
def zc2 (s : GA) : GE := fun ρ M => (s ρ M).bind zj4
def zc3 (m : Bool) (s : GA) : GE := fun ρ M => (s ρ M).bind (zbn m)
def zam (f : Nat) (c : Call) (s : GA) : GE := fun ρ M => (s ρ M).bind fun ds M => c f ds M
def zku (i : Nat) (c : Call) (s : GA) : GE := fun ρ M => match ρ[i]?.getD none with | some (.fn f) => (s ρ M).bind fun ds M => c f ds M | _ => .bad
def za7 (f : Blt) (s : GA) : GE := fun ρ M => (s ρ M).bind fun ds M => zex f ds M
def zdh (t : Ty) (a : GE) : GE := fun ρ M => (a ρ M).bind fun x M => (ofO M (zfk t x)).bind fun b M => .ok (.bl b) M
def zax (a : GE) : GT := fun ρ M => (a ρ M).bind fun x M => ofO M (zjh M x)
def zlp (a b : GT) : GT := fun ρ M => (a ρ M).bind fun k M => if k then b ρ M else .ok false M
def tOr (a b : GT) : GT := fun ρ M => (a ρ M).bind fun k M => if k then .ok true M else b ρ M
def zdg (a : GT) : GT := fun ρ M => (a ρ M).bind fun k M => .ok (!k) M
def zar (t : Tgt) (a : GE) : GS := fun ρ M => (a ρ M).bind fun x M => (ofO M (zc1 t x ρ)).bind fun ρ1 M => .ok (.next ρ1) M
def zfz (a b d : GE) : GS := fun ρ M => (d ρ M).bind fun z M => (a ρ M).bind fun x M => (b ρ M).bind fun y M => match x, y with
  | .cell k, .int n => match M[k]? with
    | some ds => match ixN ds.length n with
      | some j => .ok (.next ρ) (M.set k (ds.set j z))
      | none => .bad
    | none => .bad
  | _, _ => .bad
def zin (a d : GE) : GS := fun ρ M => (a ρ M).bind fun x M => (d ρ M).bind fun z M => match x with
  | .cell k => match M[k]? with
    | some ds => if ds.length < sz then .ok (.next ρ) (M.set k (ds ++ [z])) else .bad
    | none => .bad
  | _ => .bad
def sEx (a : GE) : GS := fun ρ M => (a ρ M).bind fun _ M => .ok (.next ρ) M
def zay (a : GE) : GS := fun ρ M => (a ρ M).bind fun x M => .ok (.ret x) M
def sRetN : GS := fun _ M => .ok (.ret .non) M
def sPass : GS := fun ρ M => .ok (.next ρ) M
def zj0 : GS := fun _ _ => .bad
def zbh (c : GT) (a b : GS) : GS := fun ρ M => (c ρ M).bind fun k M => if k then a ρ M else b ρ M
def zej (t : Tgt) (w : GW) (b : GS) : GS := fun ρ M => (w ρ M).bind fun w M => zdu (zgv t b) w (.next ρ) M
def zai : GS := fun ρ M => .ok (.next ρ) M
def zad (a b : GS) : GS := fun ρ M => (a ρ M).bind fun fl M => match fl with
  | .next ρ => b ρ M
  | .ret d => .ok (.ret d) M
section
variable {fa : Fa} {X : Cx} {a b d : PySem.Expr} {ga gb gd : GE} {ta tb : GT} {pos p : Pos} {es : List PySem.Expr} {gs : GA} {n : Nat}
theorem zac {i : Nat} {x : Str} (hN : X.N[i]? = some x) (hv : Vis X.env.scope x) (hd : (x == ("__debug__" : Str)) = false) (hcd : (x == ("__classdict__" : Str)) = false) : DE fa X (.Name x pos) (zaa i) := d_var hN hv hd hcd
theorem zal {i : Int} {j : Nat} : DE fa X (.Constant (.int i) j pos) (gC (.int i)) := d_int
theorem zew {i : Bool} {j : Nat} : DE fa X (.Constant (.bool i) j pos) (gC (.bl i)) := d_bl
theorem zi1 {i : Str} {j : Nat} : DE fa X (.Constant (.str i) j pos) (gC (.str i)) := d_str
theorem zhm {j : Nat} : DE fa X (.Constant .none j pos) (gC .non) := d_non
theorem r_gint {x : Str} {i : Int} {t : Tok} (hg : Gl X x) (hm : X.mg x = some (.int i t)) (hd : (x == ("__debug__" : Str)) = false) : DE fa X (.Name x pos) (gC (.int i)) := zjq (v := .int i) (znq hg hm ⟨t, rfl⟩ hd) fun _ _ => rfl
theorem zaw (m : Bool) (o : Bin) (ha : DE fa X a ga) (hb : DE fa X b gb) : DE fa X (.BinOp a (binOp o) b pos) (zav m o ga gb) := d_bin m o ha hb
theorem zs9 (hu : Rm X) (o : Cmp) (ha : DE fa X a ga) (hb : DE fa X b gb) (hm : behindInMarks (zcq o) b = false) : DE fa X (.Compare a [zcq o] [b] pos) (zbb o ga gb) := d_cmp hu o ha hb hm
theorem zbx (hu : Rm X) (o : Cmp) (ha : DE fa X a ga) (hb : DE fa X b gb) (hm : behindInMarks (zcq o) b = false) : DT fa X (.Compare a [zcq o] [b] pos) (zax (zbb o ga gb)) := dt_cmp hu o ha hb hm
theorem r_chn (hu : Rm X) (o o' : Cmp) {gc : GE} (ha : DE fa X a ga) (hb : DE fa X b gb) (hc : DE fa X d gc) (hm : lastMarks [zcq o, zcq o'] [b, d] = false) : DE fa X (.Compare a [zcq o, zcq o'] [b, d] pos) (gChn o o' ga gb gc) := d_chn hu o o' ha hb hc hm
theorem q_chn (hu : Rm X) (o o' : Cmp) {gc : GE} (ha : DE fa X a ga) (hb : DE fa X b gb) (hc : DE fa X d gc) (hm : lastMarks [zcq o, zcq o'] [b, d] = false) : DT fa X (.Compare a [zcq o, zcq o'] [b, d] pos) (zax (gChn o o' ga gb gc)) := dt_chn hu o o' ha hb hc hm
theorem zmo (ha : DE fa X a ga) : DE fa X (.UnaryOp .USub a pos) (ziv ga) := d_neg ha
theorem zgh {rest : List PySem.Expr} (ha : DE fa X a ga) (hb : DE fa X (.BoolOp .And (b :: rest) pos) gb) : DE fa X (.BoolOp .And (a :: b :: rest) pos) (ze5 ga gb) := d_and ha hb
theorem zi2 {op : PySem.BoolOp} (ha : DE fa X a ga) : DE fa X (.BoolOp op [a] pos) ga := d_one ha
theorem r_not (ha : DE fa X a ga) : DE fa X (.UnaryOp .Not a pos) (gNot ga) := d_not ha
theorem q_and {rest : List PySem.Expr} (ha : DT fa X a ta) (hb : DW fa X (.BoolOp .And (b :: rest) pos) tb) : DW fa X (.BoolOp .And (a :: b :: rest) pos) (zlp ta tb) := dw_and ha hb
theorem zkq {rest : List PySem.Expr} (ha : DT fa X a ta) (hb : DW fa X (.BoolOp .Or (b :: rest) pos) tb) : DW fa X (.BoolOp .Or (a :: b :: rest) pos) (tOr ta tb) := dw_or ha hb
theorem zu9 (ha : DT fa X a ta) : DW fa X (.BoolOp .And [a] pos) ta := z0k ha
theorem zi3 (ha : DT fa X a ta) : DW fa X (.BoolOp .Or [a] pos) ta := dw_or1 ha
theorem q_w (h : DW fa X a ta) : DT fa X a ta := PW.pt h
theorem zem (ha : DT fa X a ta) : DT fa X (.UnaryOp .Not a pos) (zdg ta) := dt_not ha
theorem zd4 (ha : DE fa X a ga) (he : ∀ whole, isTrue a X.env whole = (do let v <- whole; standAt a.pos; holding [v] (truthy v))) : DT fa X a (zax ga) := zx7 ha he
theorem zmp {c : PySem.Expr} (hc : DT fa X c ta) (ha : DE fa X a ga) (hb : DE fa X b gb) : DE fa X (.IfExp c a b pos) (zh4 ta ga gb) := d_ite hc ha hb
theorem za5 (ha : DE fa X a ga) (hb : DE fa X b gb) (hs : zjr b) : DE fa X (.Subscript a b pos) (za2 ga gb) := d_idx ha hb hs
theorem zfi (m hl hh : Bool) {lo hi : Option PySem.Expr} {gl gh : GE} {p2 : Pos} (ha : DE fa X a ga) (hlo : DO fa X lo hl gl) (hhi : DO fa X hi hh gh) : DE fa X (.Subscript a (.Slice lo hi none p2) pos) (zdm m hl hh ga gl gh) := d_slc m hl hh ha hlo hhi
theorem zfo : DO fa X none false (gC .non) := z0n
theorem zdi (ha : DE fa X a ga) : DO fa X (some a) true ga := z0m ha
theorem zaj : DA fa X [] zah := da_nil
theorem zae (ha : DE fa X a ga) (hs : DA fa X es gs) (h0 : starEach (a :: es) X.env = (false, eval a X.env) :: starEach es X.env) : DA fa X (a :: es) (zab ga gs) := z0q ha hs h0
theorem zd3 {k : Nat} (hs : DA fa X es gs) : DE fa X (.Tuple es k pos) (zc2 gs) := d_tup hs
theorem zel (m : Bool) (hs : DA fa X es gs) : DE fa X (.List es pos) (zc3 m gs) := d_lst m hs
theorem zan (f : Nat) {x : Str} {call : Call} (C : ∀ f, zhc fa X.prog X.w X.K X.mg X.base n f (call f)) (hr : zbe n X.A) (hg : Gl X x) (hm : ∀ ad, fa f = some ad -> X.mg x = some (.ref ad)) (hs : DA fa X (a :: es) gs)
    (hdb : (x == ("__debug__" : Str)) = false) (he : starEach (a :: es) X.env = (false, eval a X.env) :: starEach es X.env) (hpl : (backTo pos (starEach es X.env)).any (·.1) = false) : DE fa X (.Call (.Name x p) (a :: es) [] pos) (zam f call gs) := d_call (C f) hr hg hm hs hdb he hpl
theorem zse {i : Nat} {x : Str} {call : Call} (C : ∀ f, zhc fa X.prog X.w X.K X.mg X.base n f (call f)) (hr : zbe n X.A) (hN : X.N[i]? = some x) (hv : Vis X.env.scope x) (hs : DA fa X (a :: es) gs)
    (hd : (x == ("__debug__" : Str)) = false) (hcd : (x == ("__classdict__" : Str)) = false) (he : starEach (a :: es) X.env = (false, eval a X.env) :: starEach es X.env) (hpl : (backTo pos (starEach es X.env)).any (·.1) = false) :
    DE fa X (.Call (.Name x p) (a :: es) [] pos) (zku i call gs) := z0r C hr hN hv hs hd hcd he hpl
theorem zco (hg : Gl X "len") (hm : X.mg "len" = none) (hs : DA fa X (a :: es) gs) (he : starEach (a :: es) X.env = (false, eval a X.env) :: starEach es X.env) (hpl : (backTo pos (starEach es X.env)).any (·.1) = false) :
    DE fa X (.Call (.Name "len" p) (a :: es) [] pos) (za7 .len gs) := d_blt .len f_len hg hm PySem.boot_len hs (by decide) (by decide) he hpl
theorem zta (hc : X.calm = true) (hg : Gl X "all") (hm : X.mg "all" = none) (hs : DA fa X (a :: es) gs) (he : starEach (a :: es) X.env = (false, eval a X.env) :: starEach es X.env) (hpl : (backTo pos (starEach es X.env)).any (·.1) = false) :
    DE fa X (.Call (.Name "all" p) (a :: es) [] pos) (za7 .all gs) := d_blt .all (f_all hc) hg hm (by decide +kernel) hs (by decide) (by decide) he hpl
theorem zga (hg : Gl X "tuple") (hm : X.mg "tuple" = none) (hs : DA fa X (a :: es) gs) (he : starEach (a :: es) X.env = (false, eval a X.env) :: starEach es X.env) (hpl : (backTo pos (starEach es X.env)).any (·.1) = false) :
    DE fa X (.Call (.Name "tuple" p) (a :: es) [] pos) (za7 .tuple gs) := zv8 .tuple z0i hg hm (by decide +kernel) hs (by decide) (by decide) he hpl
theorem ze2 (m : Bool) (hg : Gl X "list") (hm : X.mg "list" = none) (hs : DA fa X (a :: es) gs) (he : starEach (a :: es) X.env = (false, eval a X.env) :: starEach es X.env) (hpl : (backTo pos (starEach es X.env)).any (·.1) = false) :
    DE fa X (.Call (.Name "list" p) (a :: es) [] pos) (za7 (.list m) gs) := zv8 (.list m) (f_list m) hg hm (by decide +kernel) hs (by decide) (by decide) he hpl
theorem zir (t : Ty) (ht : ∀ c, t ≠ .own c) {x : Str} {p1 p2 : Pos} (ha : DE fa X a ga) (hg : Gl X "isinstance") (hm : X.mg "isinstance" = none) (hgt : Gl X x) (hmt : X.mg x = none) (hvt : bootBuiltins x = some (.type (tyName t)))
    (hn : x ≠ "__name__") (hdb : (x == ("__debug__" : Str)) = false) (he : starEach [a, .Name x p1] X.env = (false, eval a X.env) :: starEach [.Name x p1] X.env) : DE fa X (.Call (.Name "isinstance" p2) [a, .Name x p1] [] pos) (zdh t ga) :=
  d_inst t ht ha hg hm (by decide +kernel) hgt hmt hvt hn hdb he
theorem za1 {tg : PySem.Expr} {t : Tgt} (ha : DE fa X a ga) (hg : PG X tg (gT fa X.K t)) (hs : swapsWithSole [tg] a pos.line X.env = pure false) (hw : swappedStores [tg] a X.env = pure none) (h1 : (assignEach [tg] X.env).map (·.2) = [assign tg X.env]) :
    DS fa X (.Assign [tg] a pos) (zar t ga) := ds_asg ha hg hs hw h1
theorem zgz {p2 : Pos} (ha : DE fa X a ga) (hb : DE fa X b gb) (hd : DE fa X d gd)
    (h0 : ∀ v, assign (.Subscript a b p2) X.env v = (do
      let ov <- holding [v] (eval a X.env)
      let iv <- holding [v, ov] (eval b X.env)
      standAt p2
      holding [v, ov, iv] (setItem ov iv v)
      release [v, ov, iv] [])) (hs : swapsWithSole [.Subscript a b p2] d pos.line X.env = pure false) (hw : swappedStores [.Subscript a b p2] d X.env = pure none) (h1 : (assignEach [.Subscript a b p2] X.env).map (·.2) = [assign (.Subscript a b p2) X.env]) :
    DS fa X (.Assign [.Subscript a b p2] d pos) (zfz ga gb gd) := ds_put ha hb hd h0 hs hw h1
theorem zmn {apos cpos : Pos} (ha : DE fa X a ga) (hd : DE fa X d gd) (hbase : attributeBase a "append" X.env (eval a X.env) = eval a X.env) (hline : (apos.endLine == cpos.line) = true) (hs : starEach [d] X.env = [(false, eval d X.env)])
    (hsw : swapsWith (.Call (.Attribute a "append" apos) [d] [] cpos) none pos.line X.env = pure false) : DS fa X (.Expr (.Call (.Attribute a "append" apos) [d] [] cpos) pos) (zin ga gd) := ds_app ha hd hbase hline hs hsw
theorem zko (ha : DE fa X a ga) (hs : swapsWith a none pos.line X.env = pure false) : DS fa X (.Expr a pos) (sEx ga) := ds_ex ha hs
theorem za4 (ha : DE fa X a ga) : DS fa X (.Return (some a) pos) (zay ga) := ds_ret ha
theorem zk3 {st : PySem.Stmt} : DS fa X st zj0 := ds_bad
theorem zbo {c : PySem.Expr} {st sf : List PySem.Stmt} {gt gf : GS} (hc : DT fa X c ta) (ht : DSs fa X st gt) (hf : DSs fa X sf gf) : DS fa X (.If c st sf pos) (zbh ta gt gf) := ds_ite hc ht hf
theorem zfs {t : Tgt} {tg : PySem.Expr} {body : List PySem.Stmt} {gw : GW} {gb : GS} (hp : PassesOwn (model X.prog X.w) X.A X.env X.xe) (hc : X.calm = true) (hi : DI fa X tg a gw) (hg : PG X tg (gT fa X.K t)) (hb : DSs fa X body gb)
    (hs : ∀ x, foldedSetIterable a X.env x = pure x) : DS fa X (.For tg a body [] pos) (zej t gw gb) := ds_for hp hc hi hg hb hs
theorem zp8 (m : Bool) {i : Nat} {y : Str} {py spos : Pos} {elt tg iter : PySem.Expr} {ifs : List PySem.Expr} {rest : List Comprehension} {scope : Scope} {own bn : List Str} {t : Tgt} {W : List Nat} {body : Addr -> PySem.Env -> Sem Unit} {gw : GW} {g : GB}
    (S : zf6 X own bn scope) (hcalm : X.calm = true) (hi : DI fa X tg iter gw) (B : Block fa X own bn scope tg t W body g) (hT : znb X elt tg iter ifs rest scope pos body) (hW : ∀ i ∈ W, i ∉ slots t) (hn : ∀ i ∈ slots t ++ W, i < own.length)
    (hs : ∀ x, foldedSetIterable iter X.env x = pure x) (hN : X.N.Nodup) (hy : X.N[i]? = some y) (hl : X.env.scope.names.lookup y = some .local)
    (hsw : swapsWith (.ListComp elt (⟨tg, iter, ifs, 0⟩ :: rest) scope pos) (some (.Name y py)) spos.line X.env = pure true) :
    DS fa X (.Assign [.Name y py] (.ListComp elt (⟨tg, iter, ifs, 0⟩ :: rest) scope pos) spos) (zar (.one i) (zb6 m own.length t gw g)) := ztz m S hcalm hi B hT hW hn hs hN hy hl hsw
theorem zak : DSs fa X [] zai := z0l
theorem zag {st : PySem.Stmt} {ss : List PySem.Stmt} {g g' : GS} (h1 : DS fa X st g) (h2 : DSs fa X ss g') : DSs fa X (st :: ss) (zad g g') := zx8 h1 h2
end
structure Df where
  params : Nat
  slots : Nat
  body : Call -> GS
def finD : Fl -> Mem -> Res D
  | .ret d, M => .ok d M
  | .next _, M => .ok .non M
def zh1 (c : Call) (d : Df) (ds : List D) (M : Mem) : Res D := if ds.length = d.params then (d.body c (ds.map some ++ List.replicate (d.slots - ds.length) none) M).bind finD else .bad
def za0 (P : Nat -> Option Df) : Nat -> Call
  | 0, _, _, _ => .bad
  | n + 1, f, ds, M => match P f with
    | none => .bad
    | some d => zh1 (za0 P n) d ds M
structure zpp (fa : Fa) (P : Program) (w : World) (K : PySem.W.Frag) (mg : Str -> Option Value) (base : Heap) (f : Nat) (d : Df) : Prop where
  ex : ∃ (ad : Addr) (fd : FuncData) (ps N : List Str) (st : PySem.Stmt) (x qual : Str), fa f = some ad /\ Fun K x qual st ad fd /\ Binds K fd ps [] /\ za3 N ps (zaf st) /\ d.params = ps.length /\ d.slots = N.length /\
    ∀ (call : Call) (n : Nat) (cdv : Value) (A : Around) (outer : List PySem.Env) (s : Shared) (H : Hp) (E : XK), (∀ f, zhc fa P w K mg base n f (call f)) -> zbe n (A.deeper (envOfC qual (zaf st) s.heap.objs.size ad cdv)) ->
      DSs fa (zbu CX0 P w K mg base N qual (zaf st) ad cdv A outer s H E).nox (zaz st) (d.body call)
theorem zoi {fa : Fa} {K : PySem.W.Frag} {μ : Mu} {H : Hp} {N : List Str} {ds : List D} {vs : List V} (h : za6 fa K μ H ds vs) : zbv fa K μ H (L2.start N vs) (ds.map some ++ List.replicate (N.length - ds.length) none) := by
  have hl := h.length
  refine ⟨by unfold L2.start; simp [hl], fun i d e => ?_⟩
  by_cases hi : i < ds.length
  · rw [List.getElem?_append_left (by simpa using hi), List.getElem?_map] at e
    cases e1 : ds[i]? with
    | none => rw [e1] at e; cases e
    | some d' =>
      rw [e1] at e
      cases e
      obtain ⟨v, hv, rv⟩ := h.get e1
      refine ⟨v, ?_, rv⟩
      unfold L2.start
      rw [List.getElem?_append_left (by simp; omega), List.getElem?_map, hv]
      rfl
  · rw [List.getElem?_append_right (by simp; omega), List.getElem?_replicate] at e
    split at e <;> cases e
theorem zrf {fa : Fa} {P : Program} {w : World} {K : PySem.W.Frag} {mg : Str -> Option Value} {base : Heap} {Pg : Nat -> Option Df} (h : ∀ f d, Pg f = some d -> zpp fa P w K mg base f d) : ∀ (n f : Nat), zhc fa P w K mg base n f (za0 Pg n f)
  | 0, f => .inl fun _ _ => rfl
  | n + 1, f => by
    have ih := zrf h n
    cases e : Pg f with
    | none => exact .inl fun ds M => by show (match Pg f with | none => Res.bad | some d => zh1 (za0 Pg n) d ds M) = Res.bad; rw [e]
    | some d =>
      have eq : ∀ ds M, za0 Pg (n + 1) f ds M = zh1 (za0 Pg n) d ds M := fun ds M => by show (match Pg f with | none => Res.bad | some d => zh1 (za0 Pg n) d ds M) = _; rw [e]
      obtain ⟨ad, fd, ps, N, st, x, qual, h1, F, hb, S, hp, hs, hbody⟩ := (h f d e).ex
      refine .inr ⟨ad, fd, ps, h1, F.kp, hb, fun ds M hl => ?_, ?_⟩
      · rw [eq]; unfold zh1; rw [if_neg (by rw [hp]; exact hl)]
      · refine F.ok S (fun vs H Q E hsp => hsp.1) fun cdv A outer s H vs Q E hr hsp => ⟨_, hbody (za0 Pg n) n cdv A outer s H E ih hr, ?_⟩
        obtain ⟨hl, μ, M, ds, hM, hr, hq⟩ := hsp
        rw [eq] at hq
        unfold zh1 at hq
        split at hq
        · obtain ⟨fl, M1, e1, q1⟩ := zbl hq
          refine ⟨μ, _, M, zoi hr, hM, ?_⟩
          rw [<- hs, e1]
          cases fl with
          | next ρ' =>
            have q1 : zbz fa K μ H Q .non M1 := q1
            exact fun σ' H' μ' x' e' m' => q1 .non H' μ' x' m' rfl
          | ret d => exact q1
        · exact hq.elim
end LD
namespace LD
open PySem PySem.Spec PyProof.Rows L2
def zl6 (P : Params) (e : DictEntry) (kv : Str × Addr) : Prop := ∃ t, e = ⟨PyData.keyHash P kv.1, .str kv.1 t, .ref kv.2⟩
structure zhr (K : PySem.W.Frag) (P : Params) (a : Addr) (kvs : List (Str × Addr)) : Prop where
  ex : ∃ (es : Array DictEntry) (n : Nat), K.lookup a = some { cls := .type "dict", data := .dict es n } /\ Paired (zl6 P) es.toList kvs
  nd : (kvs.map (·.1)).Nodup
  ns : (a == sysModules) = false
def kvV (kvs : List (Str × Addr)) : List (Key × Value) := kvs.map fun kv => (Sum.inr kv.1, .ref kv.2)
theorem zq9 {P : Params} : ∀ {es : List DictEntry} {kvs : List (Str × Addr)}, Paired (zl6 P) es kvs -> ∀ e ∈ es, ∃ x t, e.key = .str x t /\ e.hash = PyData.keyHash P x
  | _, _, .nil, e, h => nomatch h
  | _, _, .cons r t, e, h => by
    rcases List.mem_cons.mp h with z | z
    · subst z; obtain ⟨t, rfl⟩ := r; exact ⟨_, t, rfl, rfl⟩
    · exact zq9 t e z
theorem zm4 {prog : Program} {w : World} : ∀ {es : List DictEntry} {kvs : List (Str × Addr)}, Paired (zl6 w.params) es kvs -> Pairs (zjo prog w) es (kvV kvs)
  | _, _, .nil => .nil
  | e :: es, kv :: kvs, .cons r t => by
    obtain ⟨u, rfl⟩ := r
    exact Pairs.cons (kv := ((Sum.inr kv.1 : Key), Value.ref kv.2)) (zi5 kv.1 u) rfl (zm4 t)
theorem zqz {X : Cx} {pins : List (Addr × Obj)} {σ : L2.St} {H : Hp} {s : Shared} {a : Addr} {kvs : List (Str × Addr)} (I : Inv X pins σ H s) (h : zhr X.K X.w.params a kvs) : s.heap.DictOf (zjo X.prog X.w) a (kvV kvs) := by
  obtain ⟨es, n, lk, pr⟩ := h.ex
  refine ⟨_, es, n, I.kIn _ _ lk, ⟨rfl, rfl, rfl⟩, rfl, fun e he => ?_, zm4 pr, ?_⟩
  · obtain ⟨x, t, e1, e2⟩ := zq9 pr e (by simpa using he)
    exact ⟨Sum.inr x, by rw [e1]; exact zi5 x t, e2⟩
  · have e : (kvV kvs).map (·.1) = (kvs.map (·.1)).map Sum.inr := by unfold kvV; simp
    rw [e]
    exact List.Pairwise.map _ (fun a b (n : a ≠ b) z => n (Sum.inr.inj z)) h.nd
theorem zvz (kvs : List (Str × Addr)) (k : Str) : valueAt (kvV kvs) (Sum.inr k : Key) = (kvs.lookup k).map Value.ref := by
  induction kvs with
  | nil => rfl
  | cons kv r ih =>
    unfold valueAt kvV at ih ⊢
    rw [List.map_cons, List.find?_cons, List.lookup_cons]
    by_cases e : kv.1 = k
    · subst e; simp
    · have e2 : decide ((Sum.inr kv.1 : Key) = Sum.inr k) = false := decide_eq_false fun z => e (Sum.inr.inj z)
      have e3 : (k == kv.1) = false := beq_eq_false_iff_ne.mpr (Ne.symm e)
      rw [e2, e3]
      exact ih
def zfn (fa : Fa) (kvs : List (Str × Addr)) (fs : List (Str × Nat)) : Prop := Paired (fun (p : Str × Addr) (q : Str × Nat) => p.1 = q.1 /\ fa q.2 = some p.2) kvs fs
theorem zfn.look {fa : Fa} {k : Str} : ∀ {kvs : List (Str × Addr)} {fs : List (Str × Nat)}, zfn fa kvs fs -> (fs.lookup k = none /\ kvs.lookup k = none) \/ ∃ f ad, fs.lookup k = some f /\ kvs.lookup k = some ad /\ fa f = some ad
  | _, _, .nil => .inl ⟨rfl, rfl⟩
  | (x, a) :: r, (y, f) :: t, .cons ⟨e1, e2⟩ q => by
    have e1 : x = y := e1
    subst e1
    rw [List.lookup_cons, List.lookup_cons]
    cases e : k == x with
    | true => exact .inr ⟨f, a, rfl, rfl, e2⟩
    | false => exact zfn.look q
def zk6 (fs : List (Str × Nat)) (i : GE) : GE := fun ρ M => (i ρ M).bind fun d M => match d with
  | .str k => ofO M ((fs.lookup k).map D.fn)
  | _ => .bad
def zk5 (fs : List (Str × Nat)) (i : GE) : GE := fun ρ M => (i ρ M).bind fun d M => match d with
  | .str k => .ok (.bl (!(fs.lookup k).isSome)) M
  | _ => .bad
section
variable {fa : Fa} {X : Cx} {a b : PySem.Expr} {ga gb : GE} {pos p : Pos} {ad : Addr} {kvs : List (Str × Addr)} {fs : List (Str × Nat)} {x : Str}
theorem zx5 (hd : zhr X.K X.w.params ad kvs) : IxR X (fun x y H Q => ∃ k v, x = .ref ad /\ y = .str k /\ kvs.lookup k = some v /\ Q (.ref v) H) := by
  intro value slice pins s σ H x y v u Q I rx ry h hs
  obtain ⟨k, c, rfl, rfl, hk, q⟩ := h
  cases rx
  obtain ⟨t, rfl⟩ := ry
  have dd := zqz I hd
  have hT : s.TypeIs (.ref ad) "dict" := let ⟨o, _, _, ho, ⟨hc, _⟩, _⟩ := dd; ⟨o, ho, hc⟩
  refine tail_any hT PySem.F.slot_dict_getitem.lookup (wpAny_getItem_of (k := (Sum.inr k : Key)) (zi5 k t) dd.mapOf (v := .ref c) ?_ ?_) hs
  · rw [zvz, hk]; rfl
  · exact ⟨.ref c, H, I.tok _, rfl, q⟩
theorem zxp (hd : zhr X.K X.w.params ad kvs) : OpR X (compareOp .NotIn) (fun x y H Q => ∃ k, x = .str k /\ y = .ref ad /\ Q (.bl (!(kvs.lookup k).isSome)) H) := by
  intro pins s σ H x y v u Q I rx ry h
  obtain ⟨k, rfl, rfl, q⟩ := h
  obtain ⟨t, rfl⟩ := rx
  cases ry
  have dd := zqz I hd
  refine wpAny_notIn_of (k := (Sum.inr k : Key)) (zi5 k t) hd.ns dd.mapOf ?_
  rw [zvz, Option.isSome_map]
  exact ⟨.bl _, H, I.tok _, rfl, q⟩
theorem r_dget (hd : zhr X.K X.w.params ad kvs) (ho : zfn fa kvs fs) (hg : Gl X x) (hm : X.mg x = some (.ref ad)) (hdb : (x == ("__debug__" : Str)) = false) (hb : DE fa X b gb) (hs : zjr b) : DE fa X (.Subscript (.Name x p) b pos) (zk6 fs gb) :=
  zcu (pe_ix (zx5 hd) (znq (v := .ref ad) hg hm rfl hdb) hb hs) fun σ H Q ⟨μ, ρ, M, hE, hM, h⟩ => t1 hE hM h fun d M1 v H1 μ1 x1 hE1 hM1 r1 h1 => by
    cases d with
    | str k =>
      obtain ⟨d, e, q⟩ := zk4 h1
      rcases ho.look (k := k) with ⟨e1, _⟩ | ⟨f, c, e1, e2, e3⟩
      · rw [e1] at e; cases e
      · rw [e1] at e
        cases e
        exact ⟨k, c, rfl, r1, e2, q (.ref c) H1 μ1 x1 hM1 ⟨c, rfl, e3⟩⟩
    | _ => exact h1.elim
theorem zxs {d : D} {M1 : Mem} {P : D -> Mem -> Prop} (h : okE (match d with | .str k => Res.ok (.bl (!(fs.lookup k).isSome)) M1 | _ => .bad) P) : ∃ k, d = .str k /\ P (.bl (!(fs.lookup k).isSome)) M1 := by
  cases d with
  | str k => exact ⟨k, rfl, h⟩
  | _ => exact h.elim
theorem zx9 (ho : zfn fa kvs fs) (k : Str) : (kvs.lookup k).isSome = (fs.lookup k).isSome := by
  rcases ho.look (k := k) with ⟨e1, e2⟩ | ⟨f, c, e1, e2, _⟩ <;> rw [e1, e2] <;> rfl
theorem i_dnot (ho : zfn fa kvs fs) (σ : L2.St) (H : Hp) (Q : VK) (h : tE fa X.K (zk5 fs ga) σ H Q) : tOp (fun x y H Q => ∃ k, x = .str k /\ y = .ref ad /\ Q (.bl (!(kvs.lookup k).isSome)) H) (tE fa X.K ga) (tC (.ref ad)) σ H Q := by
  obtain ⟨μ, ρ, M, hE, hM, h⟩ := h
  refine t1 hE hM h fun d M1 v H1 μ1 x1 hE1 hM1 r1 h1 => ?_
  obtain ⟨k, rfl, q⟩ := zxs h1
  refine ⟨k, r1, rfl, ?_⟩
  rw [zx9 ho]
  exact q (.bl _) H1 μ1 x1 hM1 rfl
theorem q_dnot (hd : zhr X.K X.w.params ad kvs) (ho : zfn fa kvs fs) (hg : Gl X x) (hm : X.mg x = some (.ref ad)) (hdb : (x == ("__debug__" : Str)) = false) (ha : DE fa X a ga) (hmk : behindInMarks .NotIn (.Name x p) = false) : DT fa X (.Compare a [.NotIn] [.Name x p] pos) (zax (zk5 fs ga)) :=
  zkr (zsf (zxp hd) ha (znq (v := .ref ad) hg hm rfl hdb) hmk) fun σ H Q h => by
    refine i_dnot ho σ H _ ?_
    obtain ⟨μ, ρ, M, hE, hM, h⟩ := h
    obtain ⟨z, M3, e, q⟩ := zbl h
    refine ⟨μ, ρ, M, hE, hM, ?_⟩
    rw [e]
    have hz : ∃ k, z = .bl k := by
      obtain ⟨d, M1, e1, e2⟩ := zet e
      cases d <;> first | (cases e2; exact ⟨_, rfl⟩) | cases e2
    obtain ⟨k, rfl⟩ := hz
    intro v H' μ' x' m' r'
    obtain rfl : v = .bl k := r'
    exact ⟨k, rfl, q H' μ' x' m'⟩
def zm0 (m : Bool) (a : GE) : GE := fun ρ M => (a ρ M).bind fun x M => match x with
  | .int n => if -(2 ^ 62) ≤ n /\ n < 2 ^ 20 then zbn m ((List.range n.toNat).map fun (k : Nat) => D.int (k : Int)) M else .bad
  | _ => .bad
theorem zts : ∀ (n : Nat) (its : List Value), its.length = n -> (∀ (i : Nat) (v : Value), its[i]? = some v -> ∃ t, v = .int (i : Int) t) -> Vals ((List.range n).map fun (k : Nat) => V.int (k : Int)) its := by
  intro n its hl h
  have key : ∀ (k : Nat) (its : List Value), (∀ (i : Nat) (v : Value), its[i]? = some v -> ∃ t, v = .int ((k + i : Nat) : Int) t) -> Vals ((List.range its.length).map fun (j : Nat) => V.int ((k + j : Nat) : Int)) its := by
    intro k its
    induction its generalizing k with
    | nil => intro _; exact .nil
    | cons v r ih =>
      intro h
      rw [List.length_cons, List.range_succ_eq_map, List.map_cons, List.map_map]
      refine .cons (h 0 v rfl) ?_
      have := ih (k + 1) fun i u e => by
        have := h (i + 1) u (by simpa using e)
        rw [show k + 1 + i = k + (i + 1) by omega]; exact this
      refine cast (congrArg (fun f => Vals ((List.range r.length).map f) r) ?_) this
      funext j
      show V.int _ = V.int _
      congr 2
      omega
  have := key 0 its fun i v e => by rw [Nat.zero_add]; exact h i v e
  rw [hl] at this
  simpa using this
theorem zzs (m : Bool) {p1 p2 pos2 : Pos} (hc : X.calm = true) (ha : DE fa X a ga) (hgl : Gl X "list") (hml : X.mg "list" = none) (hg : Gl X "range") (hm : X.mg "range" = none) (hs : starEach [a] X.env = [(false, eval a X.env)])
    (hs2 : starEach [.Call (.Name "range" p2) [a] [] pos2] X.env = [(false, eval (.Call (.Name "range" p2) [a] [] pos2) X.env)]) :
    DE fa X (.Call (.Name "list" p1) [.Call (.Name "range" p2) [a] [] pos2] [] pos) (zm0 m ga) := by
  intro pins s σ H Q I ⟨μ, ρ, M, hE, hM, h⟩
  obtain ⟨x, M1, e, q⟩ := zbl h
  have key : ∀ n, x = .int n -> okE (if -(2 ^ 62) ≤ n /\ n < 2 ^ 20 then zbn m ((List.range n.toNat).map fun (k : Nat) => D.int (k : Int)) M1 else .bad) (zbz fa X.K μ H Q) ->
      wpAny (model X.prog X.w) X.A (eval (.Call (.Name "list" p1) [.Call (.Name "range" p2) [a] [] pos2] [] pos) X.env) (EP X pins σ Q) X.xe s := fun n en q' => by
    subst en
    by_cases c : -(2 ^ 62) ≤ n /\ n < 2 ^ 20
    · rw [if_pos c] at q'
      refine Call_ (zhy I hgl hml (by decide +kernel : bootBuiltins "list" = some (.type "list")) (PyProof.Rows.callWith_type1 ?_ hs2 rfl))
      rw [hs2]
      refine Calls.spliced_cons ?_
      refine Call_ (zhy I hg hm boot_range (PyProof.Rows.callWith_type1 (thn (ze3 ha zhv hs pos2 pins s σ H (fun vs H1 => ∃ μ1, vs = [.int n] /\ Ext μ H μ1 H1 /\ RelM fa X.K μ1 H1 M1) I ⟨μ, ρ, M, hE, hM, ?_⟩) fun us s1 ⟨vs, H1, I1, r1, μ1, ev, x1, m1⟩ => ?_) hs rfl))
      · rw [e]
        intro v H1 μ1 x1 m1 r1
        obtain rfl : v = .int n := r1
        exact ⟨μ1, rfl, x1, m1⟩
      subst ev
      cases r1 with
      | cons r rr =>
        cases rr
        obtain ⟨t, rfl⟩ := r
        refine call_range_1 ?_
        refine Calls.spliced_nil ?_
        refine call_list_range (n := n.toNat) (I.ok.hd hc) (IsRange.new ..) (small_one (by omega) (by omega) (by omega) (by omega)) (by rw [rangeSize_one]; split <;> omega) (by omega) fun h' tk acc' c' kp eS its => ?_
        obtain ⟨hsz, hit⟩ := its
        have I2 : Inv X pins σ H1 { s1 with heap := s1.heap.push { cls := .type "range", data := .fields #[.int 0 s1.toks, .int n t, .int 1 (s1.toks + 1)] }, toks := s1.toks + 1 + 1 } := I1.kept fun b o e => Heap.get?_push_of_some _ e
        have hv : Vals ((List.range n.toNat).map fun (k : Nat) => V.int (k : Int)) acc'.toList := zts n.toNat acc'.toList (by simpa using hsz) fun i v e => by
          obtain ⟨u, z⟩ := hit i v (by simpa using e)
          exact ⟨u, by rw [z]; simp⟩
        have rl : za6 fa X.K μ1 H1 ((List.range n.toNat).map fun (k : Nat) => D.int (k : Int)) ((List.range n.toNat).map fun (k : Nat) => V.int (k : Int)) := by
          have := za6.ints (fa := fa) (K := X.K) (μ := μ1) (H := H1) ((List.range n.toNat).map fun (k : Nat) => (k : Int))
          simpa [List.map_map, Function.comp_def] using this
        obtain ⟨c1, k1⟩ := zgp m1 rl (okW q' x1)
        refine ⟨.ref _, _, I2.laid (t' := tk) (o := .lst ((List.range n.toNat).map fun (k : Nat) => V.int (k : Int))) kp (Nat.le_refl _) ⟨?_, acc'.toList, c', hv, by simpa using eS⟩, rfl, k1 _ (I2.hok.fresh (Nat.le_refl _))⟩
        rw [rl.length, <- zfr]; exact c1
    · rw [if_neg c] at q'; exact q'.elim
  cases x with
  | int n => exact key n rfl q
  | _ => exact q.elim
end
end LD
namespace LD
open PySem PySem.Spec PyProof.Rows L2
def zsr (bn N : List Str) (sc scope : Scope) : Bool :=
  scope.names.all (fun y => y.2 != .cell && (y.2 != .local || scope.names.lookup y.1 == some .local) && (y.2 != .free || sc.names.lookup y.1 == some .cell || sc.names.lookup y.1 == some .free)) &&
  bn.length == N.length && (bn.zip N).all fun p => (p.1 == p.2 && scope.names.lookup p.2 != some .local) || scope.names.lookup p.1 == none
theorem zms {α β : Type} {R : α -> β -> Prop} : ∀ {l : List α} {r : List β}, l.length = r.length -> (∀ p ∈ l.zip r, R p.1 p.2) -> Paired R l r
  | [], [], _, _ => .nil
  | a :: l, b :: r, h, g => .cons (g (a, b) List.mem_cons_self) (zms (by simpa using h) fun p hp => g p (List.mem_cons_of_mem _ hp))
  | [], _ :: _, h, _ => by cases h
  | _ :: _, [], h, _ => by cases h
theorem zca {X : Cx} {own bn N : List Str} {sc scope : Scope} (hk : scope.kind = .function) (hs : X.env.scope = sc) (hN : X.N = N) (h : zsr bn N sc scope = true) : zf6 X own bn scope := by
  unfold zsr at h
  rw [Bool.and_eq_true, Bool.and_eq_true, List.all_eq_true, List.all_eq_true] at h
  obtain ⟨⟨h1, hl⟩, h2⟩ := h
  refine ⟨hk, fun y hy => ?_, fun y hy e => ?_, fun y hy e => ?_, ?_⟩
  · have := h1 y hy
    simp only [Bool.and_eq_true] at this
    simpa using this.1.1
  · have := h1 y hy
    simp only [Bool.and_eq_true] at this
    have := this.1.2
    rw [e] at this
    simpa using this
  · have := h1 y hy
    simp only [Bool.and_eq_true] at this
    have := this.2
    rw [e] at this
    show X.env.scope.names.lookup y.1 = _ \/ X.env.scope.names.lookup y.1 = _
    rw [hs]
    simpa using this
  · rw [hN]
    refine zms (by simpa using hl) fun p hp => ?_
    have := h2 p hp
    simp only [Bool.or_eq_true, Bool.and_eq_true, beq_iff_eq, bne_iff_ne] at this
    exact this
section
variable {fa : Fa} {X : Cx} {elt tg iter c t2 i2 : PySem.Expr} {scope : Scope} {pos : Pos} {own bn : List Str} {t u : Tgt} {gw gw2 : GW} {ge : GE} {gc : GT}
theorem zjy {n : Nat} {l : List Nat} (h : l.all (· < n) = true) : ∀ i ∈ l, i < n := fun i hi => by
  have := List.all_eq_true.mp h i hi
  simpa using this
theorem zus {l W : List Nat} (h : W.all (fun i => !l.contains i) = true) : ∀ i ∈ W, i ∉ l := fun i hi z => by
  have := List.all_eq_true.mp h i hi
  simp [z] at this
theorem zea (m : Bool) (S : zf6 X own bn scope) (hc : X.calm = true) (hi : DI fa X tg iter gw) (pg : ∀ cl C fp s H, PG (zcx X own bn scope cl C fp s H) tg (gT fa X.K t)) (he : ∀ cl C fp s H, DE fa (zcx X own bn scope cl C fp s H) elt ge)
    (hn : (slots t).all (· < own.length) = true) (hs : ∀ x, foldedSetIterable iter X.env x = pure x) : DE fa X (.ListComp elt [⟨tg, iter, [], 0⟩] scope pos) (zb6 m own.length t gw (zb8 ge)) :=
  d_comp m (W := []) (body := fun a env => eval elt env >>= fun x => call (.builtin "list.append") [.ref a, x] >>= fun _ => pure ()) S hc hi ⟨pg, fun cl C fp s H a => zm5 (he cl C fp s H)⟩ (fun it a env => zpq elt tg iter [] scope pos (.ref it) (.ref a) env) (fun i h => nomatch h) (by simpa using zjy hn) hs
variable {i : Nat} {y : Str} {py spos : Pos}
theorem zsb (m : Bool) (S : zf6 X own bn scope) (hc : X.calm = true) (hi : DI fa X tg iter gw) (pg : ∀ cl C fp s H, PG (zcx X own bn scope cl C fp s H) tg (gT fa X.K t)) (he : ∀ cl C fp s H, DE fa (zcx X own bn scope cl C fp s H) elt ge)
    (hn : (slots t).all (· < own.length) = true) (hs : ∀ x, foldedSetIterable iter X.env x = pure x) (hN : X.N.Nodup) (hy : X.N[i]? = some y) (hl : X.env.scope.names.lookup y = some .local)
    (hsw : swapsWith (.ListComp elt [⟨tg, iter, [], 0⟩] scope pos) (some (.Name y py)) spos.line X.env = pure true) : DS fa X (.Assign [.Name y py] (.ListComp elt [⟨tg, iter, [], 0⟩] scope pos) spos) (zar (.one i) (zb6 m own.length t gw (zb8 ge))) :=
  zp8 m (W := []) (body := fun a env => eval elt env >>= fun x => call (.builtin "list.append") [.ref a, x] >>= fun _ => pure ()) S hc hi ⟨pg, fun cl C fp s H a => zm5 (he cl C fp s H)⟩ (fun it a env => zpq elt tg iter [] scope pos (.ref it) (.ref a) env) (fun i h => nomatch h) (by simpa using zjy hn) hs hN hy hl hsw
theorem zw6 (m : Bool) (S : zf6 X own bn scope) (hc : X.calm = true) (hi : DI fa X tg iter gw) (pg : ∀ cl C fp s H, PG (zcx X own bn scope cl C fp s H) tg (gT fa X.K t)) (ht : ∀ cl C fp s H, DT fa (zcx X own bn scope cl C fp s H) c gc) (he : ∀ cl C fp s H, DE fa (zcx X own bn scope cl C fp s H) elt ge)
    (hn : (slots t).all (· < own.length) = true) (hs : ∀ x, foldedSetIterable iter X.env x = pure x) (hN : X.N.Nodup) (hy : X.N[i]? = some y) (hl : X.env.scope.names.lookup y = some .local)
    (hsw : swapsWith (.ListComp elt [⟨tg, iter, [c], 0⟩] scope pos) (some (.Name y py)) spos.line X.env = pure true) : DS fa X (.Assign [.Name y py] (.ListComp elt [⟨tg, iter, [c], 0⟩] scope pos) spos) (zar (.one i) (zb6 m own.length t gw (gIf gc (zb8 ge)))) :=
  zp8 m (W := []) (body := fun a env => isTrue c env (eval c env) >>= fun ok => if ok = true then (eval elt env >>= fun x => call (.builtin "list.append") [.ref a, x] >>= fun _ => pure ()) else pure ()) S hc hi ⟨pg, fun cl C fp s H a => db_if (ht cl C fp s H) (zm5 (he cl C fp s H))⟩ (fun it a env => turn_if elt tg iter c scope pos (.ref it) (.ref a) env) (fun i h => nomatch h) (by simpa using zjy hn) hs hN hy hl hsw
theorem zzq (m : Bool) (S : zf6 X own bn scope) (hc : X.calm = true) (hi : DI fa X tg iter gw) (pg : ∀ cl C fp s H, PG (zcx X own bn scope cl C fp s H) tg (gT fa X.K t)) (hi2 : ∀ cl C fp s H, DI fa (zcx X own bn scope cl C fp s H) t2 i2 gw2) (pg2 : ∀ cl C fp s H, PG (zcx X own bn scope cl C fp s H) t2 (gT fa X.K u)) (he : ∀ cl C fp s H, DE fa (zcx X own bn scope cl C fp s H) elt ge)
    (hn : (slots t ++ slots u).all (· < own.length) = true) (hW : (slots u).all (fun i => !(slots t).contains i) = true) (hs : ∀ x, foldedSetIterable iter X.env x = pure x) (hs2 : ∀ cl C fp s H, ∀ x, foldedSetIterable i2 (zcx X own bn scope cl C fp s H).env x = pure x)
    (hN : X.N.Nodup) (hy : X.N[i]? = some y) (hl : X.env.scope.names.lookup y = some .local)
    (hsw : swapsWith (.ListComp elt [⟨tg, iter, [], 0⟩, ⟨t2, i2, [], 0⟩] scope pos) (some (.Name y py)) spos.line X.env = pure true) : DS fa X (.Assign [.Name y py] (.ListComp elt [⟨tg, iter, [], 0⟩, ⟨t2, i2, [], 0⟩] scope pos) spos) (zar (.one i) (zb6 m own.length t gw (gGen u gw2 (zb8 ge)))) :=
  zp8 m (W := slots u) (body := fun a env => eval i2 env >>= fun x => standAt i2.pos >>= fun _ => foldedSetIterable i2 env x >>= fun x => holding [x] (pyIter x) >>= fun j => runOwn (.compStart (.ListComp elt [⟨tg, iter, [], 0⟩, ⟨t2, i2, [], 0⟩] scope pos) 1 j (.ref a) env) env >>= fun _ => pure ())
    S hc hi ⟨pg, fun cl C fp s H a => db_gen (X := zcx X own bn scope cl C fp s H) rfl hc (hi2 cl C fp s H) (pg2 cl C fp s H) (he cl C fp s H) (hs2 cl C fp s H)⟩ (fun it a env => zwu elt tg iter t2 i2 scope pos (.ref it) (.ref a) env) (zus hW) (zjy hn) hs hN hy hl hsw
theorem zhi {x : Str} {i : Int} (hg : Gl X x) (hm : ∃ t, X.mg x = some (.int i t)) (hd : (x == ("__debug__" : Str)) = false) : DE fa X (.Name x pos) (gC (.int i)) := let ⟨_, h⟩ := hm; r_gint hg h hd
theorem zsd {x : Str} {b : PySem.Expr} {gb : GE} {p : Pos} {fs : List (Str × Nat)} (h : ∃ ad kvs, X.mg x = some (.ref ad) /\ zhr X.K X.w.params ad kvs /\ zfn fa kvs fs) (hg : Gl X x) (hdb : (x == ("__debug__" : Str)) = false) (hb : DE fa X b gb) (hs : zjr b) : DE fa X (.Subscript (.Name x p) b pos) (zk6 fs gb) :=
  let ⟨_, _, h1, h2, h3⟩ := h; r_dget h2 h3 hg h1 hdb hb hs
theorem zzv {x : Str} {a : PySem.Expr} {ga : GE} {p : Pos} {fs : List (Str × Nat)} (h : ∃ ad kvs, X.mg x = some (.ref ad) /\ zhr X.K X.w.params ad kvs /\ zfn fa kvs fs) (hg : Gl X x) (hdb : (x == ("__debug__" : Str)) = false) (ha : DE fa X a ga) (hmk : behindInMarks .NotIn (.Name x p) = false) : DT fa X (.Compare a [.NotIn] [.Name x p] pos) (zax (zk5 fs ga)) :=
  let ⟨_, _, h1, h2, h3⟩ := h; q_dnot h2 h3 hg h1 hdb ha hmk
end
end LD
namespace LD
open PySem PySem.Spec PyProof.Rows L2
theorem zh9 {α β : Type} {f g : α -> Option β} : ∀ {l : List α}, (∀ x ∈ l, f x = g x) -> l.filterMap f = l.filterMap g
  | [], _ => rfl
  | a :: l, h => by
    rw [List.filterMap_cons, List.filterMap_cons, h a List.mem_cons_self, zh9 (l := l) fun x hx => h x (List.mem_cons_of_mem _ hx)]
theorem zom (n : Nat) (xs : List Value) (h : xs.length = n) : (List.range n).filterMap (fun (k : Nat) => xs[n - 1 - k]?) = xs.reverse := by
  have e : ∀ k ∈ List.range n, xs[n - 1 - k]? = some (xs.reverse.getD k .none) := fun k hk => by
    have hk := List.mem_range.mp hk
    rw [List.getD_eq_getElem?_getD, List.getElem?_reverse (by omega), h, List.getElem?_eq_getElem (by omega)]
    simp
  have : (List.range n).filterMap (fun (k : Nat) => xs[n - 1 - k]?) = (List.range n).map fun k => xs.reverse.getD k .none := by
    rw [zh9 (g := fun k => some (xs.reverse.getD k .none)) e]
    simp
  rw [this]
  refine List.ext_getElem? fun i => ?_
  rw [List.getElem?_map]
  by_cases hi : i < n
  · rw [List.getElem?_range hi]
    show some (xs.reverse.getD i .none) = _
    rw [List.getD_eq_getElem?_getD, List.getElem?_eq_getElem (show i < xs.reverse.length by simp; omega)]
    simp
  · rw [List.getElem?_eq_none (by simp; omega), List.getElem?_eq_none (by simp; omega)]
    rfl
theorem zo1 (its : List Value) : slicePick its.toArray none none (some (-1)) = its.reverse.toArray := by
  unfold slicePick sliceBounds sliceRange
  simp only [Option.getD_some, List.size_toArray]
  have e1 : ¬ ((-1 : Int) > 0) := by decide
  simp only [e1, if_false]
  have e2 : (if (its.length : Int) - 1 > -1 then ((its.length : Int) - 1 - -1 - -1 - 1) / (- -1) else 0).toNat = its.length := by
    split
    · simp
    · omega
  rw [e2, List.filterMap_map, <- zom its.length its rfl]
  congr 1
  refine zh9 fun k hk => ?_
  have hk := List.mem_range.mp hk
  have e3 : ((its.length : Int) - 1 + -1 * (k : Int)).toNat = its.length - 1 - k := by omega
  show its.toArray[((its.length : Int) - 1 + -1 * (k : Int)).toNat]? = _
  rw [e3]
  simp
section
variable {prog : Program} {w : World} {A : Around} {E : Value -> Shared -> Prop} {s : Shared}
theorem zli {t sl : Addr} {items : Array Value} {k : Tok} {Q : Value -> Shared -> Prop} (ht : IsTup s.heap t items) (hs : s.heap.IsSliceOf sl .none .none (.int (-1) k))
    (h : Q (.ref s.heap.objs.size) { s with heap := s.heap.push { cls := .type "tuple", data := .seq items.toList.reverse.toArray } })
    (hsz : items.size ≤ sizeLine) : wpAny (model prog w) A (getItem (.ref t) (.ref sl)) Q E s := by
  have htake : sizeOk (.seq items.toList.reverse.toArray) := by
    show items.toList.reverse.toArray.size ≤ sizeLine
    simpa using hsz
  obtain ⟨os, hos, hcs, hds⟩ := id hs
  have hTs : s.TypeIs (.ref sl) "slice" := ⟨os, hos, hcs⟩
  unfold getItem
  try with_reducible refine wpAny_holding ?_
  first | refine wpAny_bind (wpAny_pure ?_) | skip
  refine wpAny_bind (wpAny_sequenceKey ht.typeIs (by decide) ?_)
  refine wpAny_bind (wpAny_callSpecial?_slot (name := Str.ofString "__getitem__") ht.typeIs PyProof.Rows.slot_tuple_getitem
    (wpAny_call_entry PyProof.Rows.slot_tuple_getitem ht.typeIs entry_tuple_getitem ?_ (args_tuple_getitem _ _)))
  show wpAny _ _ (Builtin.Tuple.tupleItemsOf (.ref t) >>= _) _ _ s
  refine wpAny_bind (tupleItemsOf_ ht ?_)
  refine wpAny_bind (wpAny_typeOf hTs ?_)
  rw [if_pos (by decide)]
  unfold Builtin.Slice.sliceApplied Builtin.Slice.sliceFields
  refine wpAny_bind (wpAny_bind (wpAny_bind (wpAny_field hos hds (x := .none) rfl (wpAny_bind (wpAny_field hos hds (x := .none) rfl (wpAny_bind (wpAny_field hos hds (x := .int (-1) k) rfl (wpAny_pure ?_))))))))
  refine wpAny_bind (slicePart_int ?_)
  show wpAny _ _ (if ((-1 : Int) == 0) = true then _ else _) _ _ s
  rw [if_neg (by decide)]
  refine wpAny_bind (slicePart_none (wpAny_bind (slicePart_none (wpAny_bind (wpAny_pure ?_)))))
  have ea : Builtin.Slice.sliceAdjust none none (-1) (items.size : Int) = ((items.size : Int) - 1, -1) := by simp [Builtin.Slice.sliceAdjust]
  have ep : Builtin.Slice.slicePlaces ((items.size : Int) - 1) (-1) (-1) = items.size := by
    unfold Builtin.Slice.slicePlaces
    rw [if_neg (by decide)]
    split
    · simp
    · omega
  show wpAny _ _ (match Builtin.Slice.sliceAdjust none none (-1) (items.size : Int) with | (lo, hi) => pure (lo, (-1 : Int), Builtin.Slice.slicePlaces lo hi (-1))) _ _ s
  rw [ea]
  show wpAny _ _ (pure ((items.size : Int) - 1, (-1 : Int), Builtin.Slice.slicePlaces ((items.size : Int) - 1) (-1) (-1))) _ _ s
  rw [ep]
  refine wpAny_pure ?_
  have hno : ¬ ((((items.size : Int) - 1) == 0 && (-1 : Int) == 1 && items.size == items.size) = true) := by simp
  show wpAny _ _ (if (((items.size : Int) - 1) == 0 && (-1 : Int) == 1 && items.size == items.size) = true then _ else _) _ _ s
  rw [if_neg hno]
  have pick : ((List.range items.size).filterMap fun (m : Nat) => items[(((items.size : Int) - 1) + (m : Int) * -1).toNat]?).toArray = items.toList.reverse.toArray := by
    rw [<- zom items.size items.toList (by simp)]
    congr 1
    refine zh9 fun m hm => ?_
    have hm := List.mem_range.mp hm
    have e3 : ((items.size : Int) - 1 + (m : Int) * -1).toNat = items.size - 1 - m := by omega
    rw [e3]
    simp
  rw [pick]
  first
    | exact wpAny_bind (m := Builtin.Tuple.tupleExact _) (wpAny_newObj_type (wpAny_pure ⟨_, rfl, wpAny_pure h⟩) htake)
    | exact wpAny_bind (m := Builtin.Tuple.tupleExact _) (wpAny_newObj_type (wpAny_bind (wpAny_pure (wpAny_pure ⟨_, rfl, wpAny_pure h⟩))) htake)
    | exact wpAny_bind (wpAny_bind (m := Builtin.Tuple.tupleExact _) (wpAny_newObj_type (wpAny_pure (wpAny_pure ⟨_, rfl, wpAny_pure h⟩)) htake))
    | exact wpAny_bind (wpAny_bind (m := Builtin.Tuple.tupleExact _) (wpAny_newObj_type (wpAny_pure ⟨_, rfl, wpAny_pure h⟩) htake))
end
section
variable {fa : Fa} {X : Cx} {a st : PySem.Expr} {ga : GE} {pos p2 : Pos}
def revD (m : Bool) (x : D) (M : Mem) : Res D := match x with
  | .tup xs => .ok (.tup xs.reverse) M
  | x => match rdD M x with
    | some xs => zbn m xs.reverse M
    | none => .bad
def gRev (m : Bool) (a : GE) : GE := fun ρ M => (a ρ M).bind fun x M => revD m x M
def rRev (K : PySem.W.Frag) : V -> Hp -> VK -> Prop := fun x H Q => ∃ a xs, x = .ref a /\ ((SqL K H a xs /\ ∀ p, H p = none -> Q (.ref p) (upd H p (.lst xs.reverse))) \/ (SqT K H a xs /\ ∀ p, H p = none -> Q (.ref p) (upd H p (.tup xs.reverse))))
theorem zlo : ∀ {xs : List V} {us : List Value}, Vals xs us -> Vals xs.reverse us.reverse
  | _, _, .nil => .nil
  | _, _, .cons p r => by
    rw [List.reverse_cons, List.reverse_cons]
    exact (zlo r).append (.cons p .nil)
theorem pe_rev {ta : TE} (ha : PE X a ta) {ts : TE} (hst : PE X st ts) :
    PE X (.Subscript a (.Slice none none (some st) p2) pos) (fun σ H Q => ta σ H fun x H1 => ts σ H1 fun y H2 => y = .int (-1) /\ rRev X.K x H2 Q) := by
  intro pins s σ H Q I h
  refine Subscript_ (thn (ha pins s σ H _ I h) fun v s1 ⟨x, H1, I1, r1, q1⟩ => ?_)
  refine wpAny_Slice ?_
  rw [evalPart_none]
  refine wpAny_pure ?_
  refine wpAny_pure ?_
  rw [evalPart_some]
  refine thn (hst pins s1 σ H1 _ I1 q1) fun vu s3 ⟨y, H3, I3, r3, ey, q3⟩ => ?_
  subst ey
  obtain ⟨k, rfl⟩ := r3
  have I4 : Inv X pins σ H3 { s3 with heap := s3.heap.push { cls := .type "slice", data := .fields #[.none, .none, .int (-1) k] } } := I3.kept (t' := s3.toks) fun b ob q => Heap.get?_push_of_some _ q
  have hsl : (s3.heap.push { cls := .type "slice", data := .fields #[.none, .none, .int (-1) k] }).IsSliceOf s3.heap.objs.size .none .none (.int (-1) k) := Heap.IsSliceOf.new ..
  obtain ⟨b, xs, rfl, q⟩ := q3
  cases r1
  have key : ∃ T id, typeLookup (.type T) "__getitem__" = pure (some (.builtin id)) /\ Shared.TypeIs { s3 with heap := s3.heap.push { cls := .type "slice", data := .fields #[.none, .none, .int (-1) k] } } (.ref b) T /\ wpAny (model X.prog X.w) X.A (getItem (.ref b) (.ref s3.heap.objs.size)) (EP X pins σ Q) X.xe { s3 with heap := s3.heap.push { cls := .type "slice", data := .fields #[.none, .none, .int (-1) k] } } := by
    rcases q with ⟨hx, q⟩ | ⟨hx, q⟩
    · obtain ⟨its, r, ht, hz⟩ := I4.list hx
      have hlen := r.length
      refine ⟨"list", _, slot_list_getitem.lookup, ht.isList.typeIs, ?_⟩
      refine wpAny_getItem_list_slice ht.isList hsl .none .none (.int (-1) k) (by decide) ?_ (by rw [List.size_toArray] <;> omega)
      rw [zo1]
      refine ⟨.ref _, _, I4.laid (t' := s3.toks) (o := .lst xs.reverse) (fun b ob q => Heap.get?_push_of_some _ q) (Nat.le_refl _) ?_, rfl, q _ (I4.hok.fresh (Nat.le_refl _))⟩
      exact ⟨by simpa using hz, _, 0, zlo r, Heap.get?_push_size _ rfl⟩
    · obtain ⟨its, r, ht, hz⟩ := I4.tuple hx
      have hlen := r.length
      refine ⟨"tuple", _, PyProof.Rows.slot_tuple_getitem.lookup, ht.typeIs, ?_⟩
      refine zli ht hsl ?_ (by rw [List.size_toArray, <- hlen]; exact hz)
      refine ⟨.ref _, _, I4.laid (t' := s3.toks) (o := .tup xs.reverse) (fun b ob q => Heap.get?_push_of_some _ q) (Nat.le_refl _) ?_, rfl, q _ (I4.hok.fresh (Nat.le_refl _))⟩
      exact ⟨by simpa using hz, _, zlo r, IsTup.new _ _⟩
  obtain ⟨T, id, hT, ht, hg⟩ := key
  show wpAny (model X.prog X.w) X.A (subscriptTail a (.Slice none none (some st) p2) (.ref b) (.ref s3.heap.objs.size)) (EP X pins σ Q) X.xe { s3 with heap := s3.heap.push { cls := .type "slice", data := .fields #[.none, .none, .int (-1) k] } }
  exact tail_any (ops := [.ref b, .ref s3.heap.objs.size]) ht hT hg (by with_unfolding_all rfl)
theorem r_rev (m : Bool) {pc pu : Pos} {k : Nat} (ha : DE fa X a ga) : DE fa X (.Subscript a (.Slice none none (some (.UnaryOp .USub (.Constant (.int 1) k pc) pu)) p2) pos) (gRev m ga) :=
  zcu (pe_rev ha (pe_un zue zvf)) fun σ H Q ⟨μ, ρ, M, hE, hM, h⟩ => t1 hE hM h fun x M1 v H1 μ1 x1 hE1 hM1 r1 h1 => by
    refine ⟨1, rfl, rfl, ?_⟩
    have lst : ∀ (ds : List D) (b : Addr) (vs : List V), SqL X.K H1 b vs -> za6 fa X.K μ1 H1 ds vs -> okE (zbn m ds.reverse M1) (zbz fa X.K μ H Q) -> rRev X.K (.ref b) H1 Q := fun ds b vs hs hr h1 => by
      obtain ⟨_, q⟩ := zgp hM1 hr.reverse (okW h1 x1)
      exact ⟨b, vs, rfl, .inl ⟨hs, q⟩⟩
    cases x with
    | tup ds =>
      obtain ⟨b, vs, rfl, hs, hr⟩ := r1
      exact ⟨b, vs, rfl, .inr ⟨hs, zhd hM1 hr.reverse (zbz.ext h1 x1)⟩⟩
    | lst ds =>
      obtain ⟨b, vs, rfl, hs, hr⟩ := r1
      exact lst ds b vs (SqL.of hs.1) hr h1
    | frz ds =>
      obtain ⟨b, vs, rfl, hs, hr⟩ := r1
      exact lst ds b vs (hs.elim (fun ⟨o, z⟩ => .inl (.inr ⟨o, z⟩)) .inr) hr h1
    | cell k =>
      obtain ⟨b, rfl, hk⟩ := r1
      obtain ⟨ds, vs, e, hH, hr⟩ := hM1.mu_lt hk
      have h1 : okE (match M1[k]? with | some xs => zbn m xs.reverse M1 | none => .bad) (zbz fa X.K μ H Q) := h1
      rw [e] at h1
      exact lst ds b vs (SqL.of hH) hr h1
    | _ => exact h1.elim
theorem s_tryN {body : List PySem.Stmt} {h0 : ExceptHandler} {hs : List ExceptHandler} {g : GS} (hx : ∀ e s, ¬ X.xe e s) (hb : DSs fa X body g) : DS fa X (.Try body (h0 :: hs) [] [] pos) g := fun pins s σ H D I hw =>
  wpAny_Try_except (wpAny_mono (hb pins s σ H D I hw) (fun f s1 q => by
    cases f with
    | next => exact wpAny_execs_nil q
    | _ => exact q) fun e s1 z => (hx e s1 z).elim)
def sPar (i j : Nat) (gs : GA) : GS := fun ρ M => (gs ρ M).bind fun ds M => match ds with
  | [a, b] => .ok (.next ((ρ.set i (some a)).set j (some b))) M
  | _ => .bad
theorem s_par {i j : Nat} {x y : Str} {b : PySem.Expr} {gs : GA} {px py pt : Pos} {kt k2 pt2} (hc : X.calm = true) (hN : X.N.Nodup) (hi : X.N[i]? = some x) (hj : X.N[j]? = some y) (hij : i ≠ j)
    (hx : X.env.scope.names.lookup x = some .local) (hy : X.env.scope.names.lookup y = some .local) (ha : DA fa X [a, b] gs)
    (hw : swappedStores [.Tuple [.Name x px, .Name y py] kt pt] (.Tuple [a, b] k2 pt2) X.env = pure (some [x, y]))
    (hs : swapsWithSole [.Tuple [.Name x px, .Name y py] kt pt] (.Tuple [a, b] k2 pt2) pos.line X.env = pure false) :
    DS fa X (.Assign [.Tuple [.Name x px, .Name y py] kt pt] (.Tuple [a, b] k2 pt2) pos) (sPar i j gs) :=
  zg2 (ps_par hc hN hi hj hij hx hy ha hw hs) fun D' σ H ⟨μ, ρ, M, hE, hM, h⟩ => tA1 hE hM h fun ds M1 vs H1 μ1 x1 hE1 hM1 r1 h1 => by
    match ds, h1 with
    | [d1, d2], h1 =>
      obtain ⟨v, r, rfl, p1, w', r', rfl, p2, e⟩ := r1
      obtain rfl : r' = [] := e
      exact ⟨v, w', rfl, h1 _ H1 μ1 x1 ((hE1.set p1).set p2) hM1⟩
    | [], h1 => exact h1.elim
    | [_], h1 => exact h1.elim
    | _ :: _ :: _ :: _, h1 => exact h1.elim
def gInt (a : GE) : GE := fun ρ M => (a ρ M).bind fun x M => match x with
  | .int i => .ok (.int i) M
  | .bl k => .ok (.int (if k then 1 else 0)) M
  | _ => .bad
theorem zu8 {p : Pos} (ha : DE fa X a ga) (hg : Gl X "int") (hm : X.mg "int" = none) (he : starEach [a] X.env = (false, eval a X.env) :: starEach [] X.env) : DE fa X (.Call (.Name "int" p) [a] [] pos) (gInt ga) :=
  zcu (zon zwe hg hm (by decide +kernel) (ze3 ha zhv he) (by decide) (by decide) he (by rfl)) fun σ H Q ⟨μ, ρ, M, hE, hM, h⟩ => t1 hE hM h fun x M1 v H1 μ1 x1 hE1 hM1 r1 h1 => by
    cases x with
    | int i => obtain rfl : v = .int i := r1; exact .inl ⟨i, rfl, h1 _ H1 μ1 x1 hM1 rfl⟩
    | bl k => obtain rfl : v = .bl k := r1; exact .inr ⟨k, rfl, h1 _ H1 μ1 x1 hM1 rfl⟩
    | _ => exact h1.elim
end
end LD
namespace LD
open PySem PySem.Spec PyProof.Rows L2
theorem us1 {α : Type} {p : List α -> Prop} (h : ∀ a, p [a]) (us : List α) (hl : us.length = 1) : p us := by
  obtain ⟨a, rfl⟩ := List.length_eq_one_iff.mp hl; exact h a
theorem us2 {α : Type} {p : List α -> Prop} (h : ∀ a b, p [a, b]) : ∀ (us : List α) (hl : us.length = 2), p us
  | [a, b], _ => h a b
theorem us3 {α : Type} {p : List α -> Prop} (h : ∀ a b c, p [a, b, c]) : ∀ (us : List α) (hl : us.length = 3), p us
  | [a, b, c], _ => h a b c
theorem us4 {α : Type} {p : List α -> Prop} (h : ∀ a b c d, p [a, b, c, d]) : ∀ (us : List α) (hl : us.length = 4), p us
  | [a, b, c, d], _ => h a b c d
theorem mk_fn {K : PySem.W.Frag} {h : Heap} {mg : Str -> Option Value} {f : Addr} {x : Str} {st : PySem.Stmt} {oc : Value} {od an : Option Addr} {osl : Array (Option Value)} {kV doc pm cdv ct : Value} (X : K.In h) (G : h.Ns mainGlobals mg)
    (a : PySem.W.nsIn K mainGlobals x = some (some (.ref f))) (l : K.lookup f = some ⟨oc, od, .func (PySem.W.fnOf x x (zij st) (zaz st) (zaf st) .none kV doc pm an cdv ct), osl⟩)
    (c : PySem.W.codeIn K cdv x = true) (k : PySem.W.keepIn K (.ref f) = true) : ∃ f fd, mg x = some (.ref f) /\ Fun K x x st f fd := ⟨f, _, PySem.W.mg_of X G a, fun_mk l c k⟩
theorem zjn {K : PySem.W.Frag} {h : Heap} {mg : Str -> Option Value} {x : Str} {i : Int} {t : Tok} (X : K.In h) (G : h.Ns mainGlobals mg) (a : PySem.W.nsIn K mainGlobals x = some (some (.int i t))) : ∃ t, mg x = some (.int i t) := ⟨t, PySem.W.mg_of X G a⟩
theorem zhx {K : PySem.W.Frag} {h : Heap} {mg : Str -> Option Value} {x : Str} {f : Addr} (X : K.In h) (G : h.Ns mainGlobals mg) (a : PySem.W.nsIn K mainGlobals x = some (some (.ref f))) : mg x = some (.ref f) := PySem.W.mg_of X G a
theorem zf0 {K : PySem.W.Frag} {h : Heap} {mg : Str -> Option Value} {x : Str} (X : K.In h) (G : h.Ns mainGlobals mg) (a : PySem.W.nsIn K mainGlobals x = some none) : mg x = none := PySem.W.mg_none_of X G a
theorem zv0 {P : Params} : Paired (zl6 P) [] [] := .nil
theorem zgt {P : Params} {x : Str} {t : Tok} {a : Addr} {es : List DictEntry} {kvs : List (Str × Addr)} (h : Paired (zl6 P) es kvs) : Paired (zl6 P) (⟨PyData.keyHash P x, .str x t, .ref a⟩ :: es) ((x, a) :: kvs) := .cons ⟨t, rfl⟩ h
def spLaw (K : PySem.W.Frag) : Sp := fun vs H Q _ => ∃ (a : Addr) (ns : List Int), vs = [.ref a] /\ SqL K H a (ns.map V.int) /\ Only H /\ ns.length ≤ 63 /\ ∀ H', Q (.bl true) H'
theorem law_fn {fa : Fa} {P : Program} {w : World} {K : PySem.W.Frag} {mg : Str -> Option Value} {base : Heap} {Pg : Nat -> Option Df} {n f : Nat} {ad : Addr} {d : Df} {fd : FuncData} {N : List Str} {st : PySem.Stmt} {x qual y : Str} (h : ∀ f d, Pg f = some d -> zpp fa P w K mg base f d)
    (hl : ∀ ns : List Int, ns.length ≤ 63 -> ∃ M, za0 Pg (n + 1) f [.frz (ns.map D.int)] [] = .ok (.bl true) M) (e : Pg f = some d) (F : Fun K x qual st ad fd) (S : za3 N [y] (zaf st)) (hs : d.slots = N.length)
    (hbody : ∀ (call : Call) (n : Nat) (cdv : Value) (A : Around) (outer : List PySem.Env) (s : Shared) (H : Hp) (E : XK), (∀ f, zhc fa P w K mg base n f (call f)) -> zbe n (A.deeper (envOfC qual (zaf st) s.heap.objs.size ad cdv)) ->
      DSs fa (zbu CX0 P w K mg base N qual (zaf st) ad cdv A outer s H E).nox (zaz st) (d.body call)) : zh7 P w K mg base CX0 (n + 1) ad fd [y] (spLaw K) := by
  have eq : ∀ ds M, za0 Pg (n + 1) f ds M = zh1 (za0 Pg n) d ds M := fun ds M => by show (match Pg f with | none => Res.bad | some d => zh1 (za0 Pg n) d ds M) = _; rw [e]
  refine F.ok S (fun vs H Q E hsp => ?_) fun cdv A outer s H vs Q E hr hsp => ⟨_, hbody (za0 Pg n) n cdv A outer s H E (zrf h n) hr, ?_⟩
  · obtain ⟨a, ns, rfl, _⟩ := hsp; rfl
  · obtain ⟨a, ns, rfl, hS, hO, hn, q⟩ := hsp
    obtain ⟨M', e'⟩ := hl ns hn
    rw [eq] at e'
    unfold zh1 at e'
    split at e'
    · obtain ⟨fl, M1, e1, q1⟩ := zet e'
      have rp : za6 fa K ⟨fun _ => none, []⟩ H [.frz (ns.map D.int)] [.ref a] := by
        refine ⟨.ref a, [], rfl, ⟨a, ns.map V.int, rfl, ?_, za6.ints ns⟩, rfl⟩
        rcases hS with (z | ⟨o, z⟩) | z
        · rcases hO a with y | ⟨o, xs, y⟩
          · rw [y] at z; cases z
          · rw [y] at z; cases z
        · exact .inl ⟨o, z⟩
        · exact .inr z
      refine ⟨⟨fun _ => none, []⟩, _, [], zoi rp, ⟨fun k ds z => by simp at z, fun _ _ => rfl, (fun _ _ _ z => nomatch z), (fun _ z => nomatch z)⟩, ?_⟩
      rw [<- hs, e1]
      cases fl with
      | next ρ' => cases q1
      | ret d =>
        have q1 : Res.ok d M1 = Res.ok (.bl true) M' := q1
        cases q1
        intro v H' μ' _ _ r
        obtain rfl : v = .bl true := r
        exact q H'
    · cases e'
theorem zzr {o : Option Value} {a b : Addr} (h : o = some (.ref a)) (h' : o = some (.ref b)) : a = b := by rw [h] at h'; cases h'; rfl
theorem zf2 {fa : Fa} {x : Str} {a b : Addr} {i : Nat} {kvs : List (Str × Addr)} {fs : List (Str × Nat)} {o : Option Value} (h : fa i = some a) (h1 : o = some (.ref a)) (h2 : o = some (.ref b)) (r : zfn fa kvs fs) : zfn fa ((x, b) :: kvs) ((x, i) :: fs) :=
  .cons ⟨rfl, by rw [<- zzr h1 h2]; exact h⟩ r
theorem zsk {K : PySem.W.Frag} {h : Heap} {mg : Str -> Option Value} {x : Str} {ad : Addr} {P : Params} {es : Array DictEntry} {n : Nat} {kvs : List (Str × Addr)} {fa : Fa} {fs : List (Str × Nat)} (X : K.In h) (G : h.Ns mainGlobals mg) (a : PySem.W.nsIn K mainGlobals x = some (some (.ref ad)))
    (l : K.lookup ad = some { cls := .type "dict", data := .dict es n }) (he : Paired (zl6 P) es.toList kvs) (nd : (kvs.map (·.1)).Nodup) (ns : (ad == sysModules) = false) (dk : zfn fa kvs fs) : ∃ ad kvs, mg x = some (.ref ad) /\ zhr K P ad kvs /\ zfn fa kvs fs :=
  ⟨ad, kvs, PySem.W.mg_of X G a, ⟨⟨es, n, l, he⟩, nd, ns⟩, dk⟩
end LD
namespace LD
open PySem
def zd0 : List (Str × Nat) := [("turn", 7), ("join", 8), ("move", 9), ("put", 10)]
def zdt : List (Str × Nat) := [("turn", 20), ("join", 21), ("move", 22), ("put", 23)]
def zg8 (c : Call) : GS := zad (zbh (tOr (zax (zdh .bool (zaa 0))) (zdg (zax (zdh .int (zaa 0))))) (zad (zay (gC (.bl false))) (zai)) (zai)) (zad (zay (gChn .le .le (zaa 1) (zaa 0) (zaa 2))) (zai))
def zja (c : Call) : GS := zad (zay (zam 0 c (zab (zaa 1) (zab (gC (.int 0)) (zab (zav false .sub (zaa 0) (gC (.int 1))) (zah)))))) (zai)
def zie (c : Call) : GS := zad (zay (zam 0 c (zab (zaa 1) (zab (gC (.int 0)) (zab (zav false .sub (zaa 0) (gC (.int 1))) (zah)))))) (zai)
def zjf (c : Call) : GS := zad (zay (zam 0 c (zab (zaa 0) (zab (gC (.int 1)) (zab (gC (.int 3)) (zah)))))) (zai)
def zfp (c : Call) : GS := zad (zay (ze5 (zdh .tuple (zaa 1)) (zbb .eq (za7 .len (zab (zaa 1) (zah))) (zaa 0)))) (zai)
def zid (c : Call) : GS := zad (zay (ze5 (zam 4 c (zab (zaa 0) (zab (zaa 1) (zah)))) (za7 .all (zab (zb6 false 1 (.one 0) (zfl (zaa 1)) (zb8 (zam 1 c (zab (zaa 1) (zab (zaa 0) (zah)))))) (zah))))) (zai)
def ze0 (c : Call) : GS := zad (zay (ze5 (zam 4 c (zab (zaa 0) (zab (zaa 1) (zah)))) (za7 .all (zab (zb6 false 1 (.one 0) (zfl (zaa 1)) (zb8 (zam 5 c (zab (zaa 1) (zab (zaa 0) (zah)))))) (zah))))) (zai)
def zjb (c : Call) : GS := zad (zbh (zax (zbb .ne (za7 .len (zab (zaa 2) (zah))) (gC (.int 3)))) (zad (zay (gC (.bl false))) (zai)) (zai)) (zad (zar (.tup [3, 4, 5]) (zaa 2)) (zad (zay (ze5 (zam 2 c (zab (zaa 1) (zab (zaa 3) (zah)))) (ze5 (zam 5 c (zab (zaa 0) (zab (zaa 4) (zah)))) (zam 3 c (zab (zaa 5) (zah)))))) (zai)))
def zje (c : Call) : GS := zad (zbh (zax (zbb .ne (za7 .len (zab (zaa 2) (zah))) (gC (.int 4)))) (zad (zay (gC (.bl false))) (zai)) (zai)) (zad (zar (.tup [3, 4, 5, 6]) (zaa 2)) (zad (zbh (tOr (zdg (zax (zam 2 c (zab (zaa 1) (zab (zaa 3) (zah)))))) (zdg (zax (zam 2 c (zab (zaa 1) (zab (zaa 4) (zah))))))) (zad (zay (gC (.bl false))) (zai)) (zai)) (zad (zay (ze5 (zam 6 c (zab (zaa 0) (zab (zaa 5) (zah)))) (zam 3 c (zab (zaa 6) (zah))))) (zai))))
def zjd (c : Call) : GS := zad (zbh (zax (zbb .ne (za7 .len (zab (zaa 2) (zah))) (gC (.int 3)))) (zad (zay (gC (.bl false))) (zai)) (zai)) (zad (zar (.tup [3, 4, 5]) (zaa 2)) (zad (zay (ze5 (zam 2 c (zab (zaa 1) (zab (zaa 3) (zah)))) (ze5 (zam 2 c (zab (zaa 1) (zab (zaa 4) (zah)))) (zam 3 c (zab (zaa 5) (zah)))))) (zai)))
def zke (c : Call) : GS := zad (zbh (zax (zbb .ne (za7 .len (zab (zaa 2) (zah))) (gC (.int 3)))) (zad (zay (gC (.bl false))) (zai)) (zai)) (zad (zar (.tup [3, 4, 5]) (zaa 2)) (zad (zay (ze5 (zam 2 c (zab (zaa 1) (zab (zaa 3) (zah)))) (ze5 (zam 1 c (zab (zaa 0) (zab (zaa 4) (zah)))) (zam 3 c (zab (zaa 5) (zah)))))) (zai)))
def zf4 (c : Call) : GS := zad (zbh (tOr (zdg (zax (zdh .tuple (zaa 2)))) (zdg (zax (zaa 2)))) (zad (zay (gC (.bl false))) (zai)) (zai)) (zad (zar (.one 3) (za2 (zaa 2) (gC (.int 0)))) (zad (zbh (tOr (zdg (zax (zdh .str (zaa 3)))) (zax (zk5 zd0 (zaa 3)))) (zad (zay (gC (.bl false))) (zai)) (zai)) (zad (zar (.one 4) (zk6 zd0 (zaa 3))) (zad (zay (zku 4 c (zab (zaa 0) (zab (zaa 1) (zab (zdm false true false (zaa 2) (gC (.int 1)) (gC .non)) (zah)))))) (zai)))))
def zg7 (c : Call) : GS := zad (zbh (zdg (zax (zam 4 c (zab (gC (.int 3)) (zab (zaa 0) (zah)))))) (zad (zay (gC (.bl false))) (zai)) (zai)) (zad (zar (.tup [1, 2, 3]) (zaa 0)) (zad (zbh (tOr (zdg (zax (zam 0 c (zab (zaa 1) (zab (gC (.int 2)) (zab (gC (.int 4)) (zah))))))) (zdg (zax (zam 0 c (zab (zaa 2) (zab (gC (.int 1)) (zab (gC (.int 2)) (zah)))))))) (zad (zay (gC (.bl false))) (zai)) (zai)) (zad (zbh (tOr (zdg (zax (zdh .tuple (zaa 3)))) (zdg (zax (gChn .le .le (gC (.int 1)) (za7 .len (zab (zaa 3) (zah))) (gC (.int 6)))))) (zad (zay (gC (.bl false))) (zai)) (zai)) (zad (zay (za7 .all (zab (zb6 false 1 (.one 0) (zfl (zaa 3)) (zb8 (zam 11 c (zab (zaa 2) (zab (zaa 3) (zab (zaa 0) (zah))))))) (zah)))) (zai)))))
def zgd (c : Call) : GS := zad (zbh (zdg (zax (zam 12 c (zab (zaa 0) (zah))))) (zad (zj0) (zai)) (zai)) (zai)
def zn9 (c : Call) : GS := zad (zar (.tup [2, 3, 4]) (zaa 0)) (zad (zay (ze5 (zam 4 c (zab (zaa 3) (zab (zaa 1) (zah)))) (za7 .all (zab (zb6 false 1 (.one 0) (zfl (zaa 1)) (zb8 (zam 1 c (zab (zaa 3) (zab (zaa 0) (zah)))))) (zah))))) (zai))
def zdc (c : Call) : GS := zad (sEx (zam 13 c (zab (zaa 0) (zah)))) (zad (zar (.tup [1, 2, 3]) (zaa 0)) (zad (zar (.one 4) (zc3 false (zab (zc2 (zah)) (zah)))) (zad (zej (.one 5) (zc0 (zaa 2)) (zad (zar (.one 4) (zb6 false 2 (.one 0) (zfl (zaa 4)) (gGen (.one 1) (zc0 (zaa 3)) (zb8 (zav false .add (zaa 0) (zc2 (zab (zaa 1) (zah)))))))) (zai))) (zad (zay (zaa 4)) (zai)))))
def zfm (c : Call) : GS := zad (zay (zam 0 c (zab (zaa 1) (zab (gC (.int 0)) (zab (zav false .sub (za7 .len (zab (za2 (zaa 0) (gC (.int 2))) (zah))) (gC (.int 1))) (zah)))))) (zai)
def zgc (c : Call) : GS := zad (zbh (zdg (zax (zdh .list (zaa 1)))) (zad (zj0) (zai)) (zai)) (zad (zej (.tup [2, 3]) (zi7 (zaa 1)) (zad (zbh (zdg (zax (zam 16 c (zab (zaa 0) (zab (zaa 3) (zah)))))) (zad (zj0) (zai)) (zai)) (zai))) (zai))
def zic (c : Call) : GS := zad (sEx (zam 13 c (zab (zaa 0) (zah)))) (zad (sEx (zam 17 c (zab (zaa 0) (zab (zaa 1) (zah))))) (zad (zbh (zax (zbb .gt (za7 .len (zab (zaa 1) (zah))) (gC (.int 40)))) (zad (zj0) (zai)) (zai)) (zai)))
def b_cost (c : Call) : GS := zad (sEx (zam 18 c (zab (zaa 0) (zab (zaa 1) (zah))))) (zad (zay (zam 47 c (zab (zaa 0) (zab (zaa 1) (zah))))) (zai))
def zj9 (c : Call) : GS := zad (zar (.tup [2, 3, 4, 5]) (zaa 0)) (zad (zay (za2 (zaa 4) (za2 (zaa 1) (zaa 3)))) (zai))
def zkc (c : Call) : GS := zad (zar (.tup [2, 3, 4, 5, 6]) (zaa 0)) (zad (zay (za2 (za2 (zaa 5) (za2 (zaa 1) (zaa 3))) (za2 (zaa 1) (zaa 4)))) (zai))
def zld (c : Call) : GS := zad (zar (.tup [2, 3, 4, 5]) (zaa 0)) (zad (zay (za2 (zaa 1) (zaa 4))) (zai))
def zka (c : Call) : GS := zad (zar (.tup [2, 3, 4, 5]) (zaa 0)) (zad (zay (zaa 4)) (zai))
def zm7 (c : Call) : GS := zad (zar (.one 2) (zk6 zdt (za2 (zaa 0) (gC (.int 0))))) (zad (zar (.one 3) (za2 (zaa 0) (gC (.int 1)))) (zad (zay (zav false .add (zav false .add (zdm false false true (zaa 1) (gC .non) (zaa 3)) (zc2 (zab (zku 2 c (zab (zaa 0) (zab (zaa 1) (zah)))) (zah)))) (zdm false true false (zaa 1) (zav false .add (zaa 3) (gC (.int 1))) (gC .non)))) (zai)))
def zge (c : Call) : GS := zad (zar (.one 3) (zc3 true (zab (zaa 2) (zah)))) (zad (zej (.one 4) (zfl (zaa 1)) (zad (zin (zaa 3) (zam 24 c (zab (za2 (za2 (zaa 0) (gC (.int 2))) (zaa 4)) (zab (za2 (zaa 3) (ziv (gC (.int 1)))) (zah))))) (zai))) (zad (zay (zaa 3)) (zai)))
def b_run (c : Call) : GS := zad (sEx (zam 18 c (zab (zaa 0) (zab (zaa 1) (zah))))) (zad (zbh (zdg (zax (zam 14 c (zab (zaa 0) (zab (zaa 2) (zah)))))) (zad (zj0) (zai)) (zai)) (zad (zay (zam 25 c (zab (zaa 0) (zab (zaa 1) (zab (zaa 2) (zah)))))) (zai)))
def zez (c : Call) : GS := zad (sEx (zam 18 c (zab (zaa 0) (zab (zaa 1) (zah))))) (zad (zay (zam 46 c (zab (zaa 0) (zab (zaa 1) (zah))))) (zai))
def zgl (c : Call) : GS := zad (zbh (zax (zbb .ge (zaa 0) (zav false .pow (gC (.int 10)) (gC (.int 18))))) (zad (zay (zaa 0)) (zai)) (zai)) (zad (zar (.one 2) (zc3 false (zab (gC (.int 2147483629)) (zab (gC (.int 2147483587)) (zab (gC (.int 2147483579)) (zab (gC (.int 2147483563)) (zab (gC (.int 2147483549)) (zab (gC (.int 2147483543)) (zab (gC (.int 2147483497)) (zab (gC (.int 2147483489)) (zah))))))))))) (zad (zar (.one 2) (zav false .add (zaa 2) (zc3 false (zab (gC (.int 2147483477)) (zab (gC (.int 2147483423)) (zab (gC (.int 2147483399)) (zab (gC (.int 2147483353)) (zab (gC (.int 2147483323)) (zah))))))))) (zad (zar (.one 3) (zav false .mod (zav false .pow (zav false .add (zav false .add (zav false .mul (zav false .mod (zaa 0) (gC (.int 1000000007))) (zav false .add (zav false .mul (gC (.int 2)) (zaa 1)) (gC (.int 69069)))) (zav false .mul (zaa 1) (gC (.int 40503)))) (gC (.int 977))) (gC (.int 3))) (za2 (zaa 2) (zav false .mod (zaa 1) (gC (.int 13)))))) (zad (zar (.one 4) (zav false .mod (zav false .pow (zav false .add (zav false .add (zav false .mul (zaa 3) (zav false .add (zaa 1) (gC (.int 3)))) (zav false .mod (zaa 0) (gC (.int 65537)))) (gC (.int 5))) (gC (.int 5))) (za2 (zaa 2) (zav false .mod (zav false .add (zaa 1) (gC (.int 5))) (gC (.int 13)))))) (zad (zar (.one 5) (zav false .mod (zav false .pow (zav false .add (zav false .add (zaa 4) (zav false .mod (zaa 3) (gC (.int 1009)))) (zaa 1)) (gC (.int 3))) (za2 (zaa 2) (zav false .mod (zav false .add (zaa 1) (gC (.int 7))) (gC (.int 13)))))) (zad (zay (zav false .add (zav false .mul (zav false .add (zav false .mul (zaa 3) (gC (.int 2147483647))) (zaa 4)) (gC (.int 2147483647))) (zaa 5))) (zai)))))))
def zho (c : Call) : GS := zad (zar (.one 1) (za7 (.list true) (zab (zdm false false true (zaa 0) (gC .non) (gC (.int 12))) (zah)))) (zad (zej (.tup [2, 3]) (zi7 (zdm false true true (zaa 0) (gC (.int 12)) (gC (.int 63)))) (zad (zfz (zaa 1) (zav false .mod (zaa 2) (gC (.int 12))) (zav false .add (za2 (zaa 1) (zav false .mod (zaa 2) (gC (.int 12)))) (zaa 3))) (zai))) (zad (zay (zc3 true (zab (zaa 1) (zab (gC (.int 0)) (zab (gC (.int 0)) (zah)))))) (zai)))
def zhq (c : Call) : GS := zad (zfz (zaa 0) (gC (.int 2)) (gC (.int 0))) (zad (zay (zaa 0)) (zai))
def zjj (c : Call) : GS := zad (zbh (zax (zbb .lt (za2 (zaa 0) (gC (.int 2))) (zaa 1))) (zad (zar (.one 2) (za2 (zaa 0) (gC (.int 1)))) (zad (zar (.one 3) (gC (.int 0))) (zad (zbh (zax (zbb .lt (zaa 2) (za7 .len (zab (za2 (zaa 0) (gC (.int 0))) (zah))))) (zad (zar (.one 3) (za2 (za2 (zaa 0) (gC (.int 0))) (zaa 2))) (zai)) (zad (zbh (zax (zbb .gt (za7 .len (zab (za2 (zaa 0) (gC (.int 0))) (zah))) (gC (.int 0)))) (zad (zar (.one 3) (zav false .mod (za2 (za2 (zaa 0) (gC (.int 0))) (zav false .mod (zav false .add (zav false .mul (zaa 2) (gC (.int 5))) (gC (.int 3))) (za7 .len (zab (za2 (zaa 0) (gC (.int 0))) (zah))))) (zav false .add (zav false .pow (gC (.int 10)) (gC (.int 17))) (zaa 2)))) (zai)) (zai)) (zai))) (zad (zfz (zaa 0) (gC (.int 1)) (zav false .add (zaa 2) (gC (.int 1)))) (zad (zfz (zaa 0) (gC (.int 2)) (zam 28 c (zab (zaa 3) (zab (zaa 2) (zah))))) (zai)))))) (zai)) (zad (zar (.one 4) (zav false .mod (za2 (zaa 0) (gC (.int 2))) (zaa 1))) (zad (zfz (zaa 0) (gC (.int 2)) (zav false .fdiv (za2 (zaa 0) (gC (.int 2))) (zaa 1))) (zad (zay (zaa 4)) (zai))))
def zif (c : Call) : GS := zad (zar (.one 2) (zam 31 c (zab (zaa 0) (zab (gC (.int 6)) (zah))))) (zad (zar (.one 3) (zam 31 c (zab (zaa 0) (zab (zaa 1) (zah))))) (zad (zar (.one 4) (zam 31 c (zab (zaa 0) (zab (zaa 1) (zah))))) (zad (zbh (zax (zbb .lt (zaa 2) (gC (.int 2)))) (zad (zay (za7 .tuple (zab (zb6 false 1 (.one 0) (zc0 (zaa 1)) (zb8 (zam 31 c (zab (zaa 1) (zab (zaa 2) (zah)))))) (zah)))) (zai)) (zai)) (zad (zbh (zax (zbb .eq (zaa 2) (gC (.int 2)))) (zad (zay (za7 .tuple (zab (zb6 false 1 (.one 0) (zc0 (zaa 1)) (zb8 (zav false .mod (zav false .add (zav false .add (zaa 0) (gC (.int 1))) (zaa 4)) (zaa 2)))) (zah)))) (zai)) (zai)) (zad (zbh (zax (zbb .eq (zaa 2) (gC (.int 3)))) (zad (zay (za7 .tuple (zab (zb6 false 1 (.one 0) (zc0 (zaa 1)) (zb8 (zh4 (zax (zbb .eq (zaa 0) (zaa 4))) (zaa 5) (zaa 0)))) (zah)))) (zai)) (zai)) (zad (zbh (zax (zbb .eq (zaa 2) (gC (.int 4)))) (zad (zay (zav false .mul (zc2 (zab (zaa 3) (zah))) (zaa 1))) (zai)) (zai)) (zad (zar (.one 5) (zm0 true (zaa 1))) (zad (zfz (zaa 5) (zaa 3) (zaa 4)) (zad (zfz (zaa 5) (zaa 4) (zaa 3)) (zad (zay (za7 .tuple (zab (zaa 5) (zah)))) (zai)))))))))))
def zhp (c : Call) : GS := zad (zar (.one 3) (zam 31 c (zab (zaa 0) (zab (gC (.int 8)) (zah))))) (zad (zar (.one 4) (zav false .add (gC (.int 1)) (zam 31 c (zab (zaa 0) (zab (gC (.int 3)) (zah)))))) (zad (zar (.one 5) (zam 31 c (zab (zaa 0) (zab (zaa 2) (zah))))) (zad (zar (.one 6) (zam 31 c (zab (zaa 0) (zab (zaa 2) (zah))))) (zad (zbh (zax (zbb .lt (zaa 3) (gC (.int 3)))) (zad (zay (zc2 (zab (gC (.str "turn")) (zab (zaa 5) (zab (zam 32 c (zab (zaa 0) (zab (zaa 1) (zah)))) (zab (zaa 4) (zah))))))) (zai)) (zai)) (zad (zbh (zax (zbb .lt (zaa 3) (gC (.int 5)))) (zad (zay (zc2 (zab (gC (.str "move")) (zab (zaa 5) (zab (zh4 (zax (zbb .eq (zaa 3) (gC (.int 3)))) (zav false .mod (zav false .add (zaa 5) (gC (.int 1))) (zaa 2)) (zaa 6)) (zab (zaa 4) (zah))))))) (zai)) (zai)) (zad (zbh (zax (zbb .eq (zaa 3) (gC (.int 5)))) (zad (zay (zc2 (zab (gC (.str "put")) (zab (zaa 5) (zab (zam 31 c (zab (zaa 0) (zab (zaa 1) (zah)))) (zab (zaa 4) (zah))))))) (zai)) (zai)) (zad (zay (zc2 (zab (gC (.str "join")) (zab (zaa 5) (zab (zaa 6) (zab (za7 .tuple (zab (zb6 false 1 (.one 0) (zc0 (zaa 1)) (zb8 (zam 32 c (zab (zaa 1) (zab (zaa 2) (zah)))))) (zah))) (zab (zaa 4) (zah)))))))) (zai))))))))
def zgf (c : Call) : GS := zad (zar (.one 1) (zav false .add (gC (.int 2)) (zam 31 c (zab (zaa 0) (zab (zav false .sub (zaa 1) (gC (.int 1))) (zah)))))) (zad (zar (.one 2) (zav false .add (gC (.int 1)) (zam 31 c (zab (zaa 0) (zab (zaa 2) (zah)))))) (zad (zar (.one 4) (zc3 true (zah))) (zad (zej (.one 5) (zc0 (zav false .add (gC (.int 1)) (zam 31 c (zab (zaa 0) (zab (zaa 3) (zah)))))) (zad (zar (.one 6) (zam 31 c (zab (zaa 0) (zab (gC (.int 5)) (zah))))) (zad (zar (.one 7) (zam 33 c (zab (zaa 0) (zab (zaa 1) (zab (zaa 2) (zah)))))) (zad (zbh (zlp (zax (zbb .eq (zaa 6) (gC (.int 0)))) (zax (zbb .ne (zaa 4) (zc3 false (zah))))) (zad (zar (.one 7) (zav false .add (zdm false false true (za2 (zaa 4) (zam 31 c (zab (zaa 0) (zab (za7 .len (zab (zaa 4) (zah))) (zah))))) (gC .non) (ziv (gC (.int 1)))) (zc2 (zab (za2 (zaa 7) (ziv (gC (.int 1)))) (zah))))) (zai)) (zai)) (zad (zin (zaa 4) (zaa 7)) (zai)))))) (zad (zay (zc2 (zab (zaa 1) (zab (zaa 2) (zab (za7 .tuple (zab (zaa 4) (zah))) (zah)))))) (zai)))))
def zig (c : Call) : GS := zad (zar (.one 3) (zam 31 c (zab (zaa 0) (zab (gC (.int 4)) (zah))))) (zad (zar (.one 4) (zh4 (zax (zbb .eq (zaa 3) (gC (.int 0)))) (zaa 2) (zam 31 c (zab (zaa 0) (zab (zav false .add (zaa 2) (gC (.int 1))) (zah)))))) (zad (zar (.one 5) (zb6 false 1 (.one 0) (zc0 (zaa 4)) (zb8 (zam 31 c (zab (zaa 1) (zab (za7 .len (zab (za2 (zaa 2) (gC (.int 2))) (zah))) (zah))))))) (zad (zbh (zax (zbb .eq (zaa 3) (gC (.int 1)))) (zad (zar (.one 5) (zdm false false true (zav false .mul (zdm false false true (zaa 5) (gC .non) (gC (.int 2))) (zaa 4)) (gC .non) (zaa 4))) (zai)) (zai)) (zad (zay (zaa 5)) (zai)))))
def zrk (c : Call) : GS := zad (zar (.one 3) (zav false .add (zaa 1) (zaa 2))) (zad (zbh (zax (zbb .ne (zam 19 c (zab (zaa 0) (zab (zaa 3) (zah)))) (zav false .add (zam 19 c (zab (zaa 0) (zab (zaa 1) (zah)))) (zam 19 c (zab (zaa 0) (zab (zaa 2) (zah))))))) (zad (zay (gC (.bl false))) (zai)) (zai)) (zad (zar (.one 4) (zc3 true (zah))) (zad (zej (.one 5) (zfl (zam 15 c (zab (zaa 0) (zah)))) (zad (zar (.one 6) (zam 26 c (zab (zaa 0) (zab (za7 (.list false) (zab (zaa 1) (zah))) (zab (zaa 5) (zah)))))) (zad (zar (.one 7) (zam 26 c (zab (zaa 0) (zab (za7 (.list false) (zab (zaa 2) (zah))) (zab (za2 (zaa 6) (ziv (gC (.int 1)))) (zah)))))) (zad (zar (.one 8) (zam 26 c (zab (zaa 0) (zab (za7 (.list false) (zab (zaa 3) (zah))) (zab (zaa 5) (zah)))))) (zad (zbh (tOr (zax (zbb .ne (zaa 8) (zav false .add (zaa 6) (zdm false true false (zaa 7) (gC (.int 1)) (gC .non))))) (tOr (zax (zbb .ne (za7 .len (zab (zaa 8) (zah))) (zav false .add (za7 .len (zab (zaa 3) (zah))) (gC (.int 1))))) (zax (zbb .ne (za2 (zaa 8) (gC (.int 0))) (zaa 5))))) (zad (zay (gC (.bl false))) (zai)) (zai)) (zad (zin (zaa 4) (za2 (zaa 8) (ziv (gC (.int 1))))) (zai))))))) (zad (zay (zbb .eq (za7 .tuple (zab (zaa 4) (zah))) (zam 27 c (zab (zaa 0) (zab (zaa 3) (zah)))))) (zai)))))
def b_law (c : Call) : GS := zad (zar (.one 1) (zam 29 c (zab (zaa 0) (zah)))) (zad (zej (.one 2) (zc0 (gC (.int 4))) (zad (zar (.one 3) (zam 34 c (zab (zam 30 c (zab (zaa 1) (zah))) (zab (gC (.int 4)) (zab (gC (.int 2)) (zab (gC (.int 6)) (zah))))))) (zad (zar (.one 4) (zam 35 c (zab (zaa 1) (zab (zaa 3) (zab (gC (.int 8)) (zah)))))) (zad (zar (.one 5) (zam 35 c (zab (zaa 1) (zab (zaa 3) (zab (gC (.int 8)) (zah)))))) (zad (zar (.one 6) (zam 31 c (zab (zaa 1) (zab (zav false .add (za7 .len (zab (zaa 4) (zah))) (gC (.int 1))) (zah))))) (zad (zej (.tup [7, 8]) (zfl (zc3 false (zab (zc2 (zab (zaa 4) (zab (zaa 5) (zah)))) (zab (zc2 (zab (zdm false false true (zaa 4) (gC .non) (zaa 6)) (zab (zdm false true false (zaa 4) (zaa 6) (gC .non)) (zah)))) (zab (zc2 (zab (zc3 false (zah)) (zab (zaa 5) (zah)))) (zab (zc2 (zab (zaa 5) (zab (zc3 false (zah)) (zah)))) (zah))))))) (zad (zbh (zdg (zax (zam 36 c (zab (zaa 3) (zab (zaa 7) (zab (zaa 8) (zah))))))) (zad (zay (gC (.bl false))) (zai)) (zai)) (zai))) (zai))))))) (zad (zay (gC (.bl true))) (zai)))
def zr6 (c : Call) : GS := zad (zbh (zax (zbb .isN (zaa 1) (gC .non))) (zad (zay (zbb .isN (zaa 0) (gC .non))) (zai)) (zai)) (zad (zbh (tOr (zax (zdh .bool (zaa 1))) (zax (zdh .bool (zaa 0)))) (zad (zay (ze5 (zdh .bool (zaa 1)) (ze5 (zdh .bool (zaa 0)) (zbb .eq (zaa 0) (zaa 1))))) (zai)) (zai)) (zad (zbh (zax (zdh .int (zaa 1))) (zad (zay (ze5 (zdh .int (zaa 0)) (zbb .eq (zaa 0) (zaa 1)))) (zai)) (zai)) (zad (zbh (zax (zdh .str (zaa 1))) (zad (zay (ze5 (zdh .str (zaa 0)) (zbb .eq (zaa 0) (zaa 1)))) (zai)) (zai)) (zad (zbh (tOr (zax (zbb .ne (zdh .tuple (zaa 1)) (zdh .tuple (zaa 0)))) (zax (zbb .ne (zdh .list (zaa 1)) (zdh .list (zaa 0))))) (zad (zay (gC (.bl false))) (zai)) (zai)) (zad (zbh (zax (zbb .ne (za7 .len (zab (zaa 0) (zah))) (za7 .len (zab (zaa 1) (zah))))) (zad (zay (gC (.bl false))) (zai)) (zai)) (zad (zay (zbb .notin (gC (.bl false)) (zb6 false 2 (.tup [0, 1]) (ztv (zaa 0) (zaa 1)) (zb8 (zam 40 c (zab (zaa 0) (zab (zaa 1) (zah)))))))) (zai)))))))
def zg9 (c : Call) : GS := zad (zar (.one 2) (za7 (.list true) (zab (zaa 1) (zah)))) (zad (zar (.one 3) (za2 (zaa 1) (za2 (zaa 0) (gC (.int 1))))) (zad (zbh (zax (zbb .eq (za2 (zaa 0) (gC (.int 0))) (gC (.str "turn")))) (zad (zfz (zaa 2) (za2 (zaa 0) (gC (.int 1))) (za2 (za2 (zaa 0) (gC (.int 2))) (zaa 3))) (zai)) (zai)) (zad (zbh (zax (zbb .eq (za2 (zaa 0) (gC (.int 0))) (gC (.str "join")))) (zad (zfz (zaa 2) (za2 (zaa 0) (gC (.int 1))) (za2 (za2 (za2 (zaa 0) (gC (.int 3))) (zaa 3)) (za2 (zaa 1) (za2 (zaa 0) (gC (.int 2)))))) (zai)) (zai)) (zad (zbh (zax (zbb .eq (za2 (zaa 0) (gC (.int 0))) (gC (.str "move")))) (zad (zfz (zaa 2) (za2 (zaa 0) (gC (.int 1))) (za2 (zaa 1) (za2 (zaa 0) (gC (.int 2))))) (zai)) (zai)) (zad (zbh (zax (zbb .eq (za2 (zaa 0) (gC (.int 0))) (gC (.str "put")))) (zad (zfz (zaa 2) (za2 (zaa 0) (gC (.int 1))) (za2 (zaa 0) (gC (.int 2)))) (zai)) (zai)) (zad (zay (za7 .tuple (zab (zaa 2) (zah)))) (zai)))))))
def zgo (c : Call) : GS := zad (zbh (zax (zbb .eq (za2 (zaa 0) (gC (.int 1))) (gC (.int 1)))) (zad (zay (zb6 false 1 (.one 0) (zc0 (za2 (zaa 0) (gC (.int 0)))) (zb8 (zc2 (zab (zaa 0) (zah)))))) (zai)) (zai)) (zad (zay (zb6 false 1 (.one 0) (zc0 (zav false .mul (za2 (zaa 0) (gC (.int 0))) (za2 (zaa 0) (gC (.int 0))))) (zb8 (zc2 (zab (zav false .fdiv (zaa 0) (za2 (zaa 1) (gC (.int 0)))) (zab (zav false .mod (zaa 0) (za2 (zaa 1) (gC (.int 0)))) (zah))))))) (zai))
def zd9 (c : Call) : GS := zad (zar (.one 2) (zc3 true (zah))) (zad (zej (.one 3) (zfl (zam 42 c (zab (zaa 0) (zah)))) (zad (zej (.one 4) (zfl (zaa 1)) (zad (zar (.one 3) (zam 41 c (zab (za2 (za2 (zaa 0) (gC (.int 2))) (zaa 4)) (zab (zaa 3) (zah))))) (zai))) (zad (zin (zaa 2) (zaa 3)) (zai)))) (zad (zay (za7 .tuple (zab (zaa 2) (zah)))) (zai)))
def ze9 (c : Call) : GS := zad (zay (za7 .tuple (zab (zb6 false 1 (.one 0) (zfl (zam 15 c (zab (zaa 0) (zah)))) (zb8 (za2 (zam 25 c (zab (zaa 1) (zab (zaa 2) (zab (zaa 0) (zah))))) (ziv (gC (.int 1)))))) (zah)))) (zai)
def zph (c : Call) : GS := zad (zay (za7 .sum (zab (zb6 false 1 (.one 0) (zfl (zaa 1)) (zb8 (za2 (za2 (za2 (zaa 1) (gC (.int 2))) (zaa 0)) (ziv (gC (.int 1)))))) (zah)))) (zai)
def zkb (c : Call) : GS := zad (zar (.one 3) (zam 27 c (zab (zaa 0) (zab (zaa 1) (zah))))) (zad (zar (.one 4) (zam 27 c (zab (zaa 0) (zab (zaa 2) (zah))))) (zad (zej (.tup [5, 6, 7]) (zpn (zam 15 c (zab (zaa 0) (zah))) (zaa 3) (zaa 4)) (zad (zbh (zax (zbb .ne (zaa 6) (zaa 7))) (zad (zay (zaa 5)) (zai)) (zai)) (zai))) (zad (zay (gC .non)) (zai))))
def zcy (c : Call) : GS := zad (zar (.one 2) (zav false .add (zb6 false 1 (.one 0) (zc0 (gC (.int 9))) (zb8 (zam 35 c (zab (zaa 1) (zab (zaa 2) (zab (gC (.int 3)) (zah))))))) (zc3 false (zab (zc3 false (zah)) (zab (zc3 false (zab (gC (.int 0)) (zah))) (zah)))))) (zad (zar (.one 3) (zc3 true (zab (zc2 (zab (za2 (zaa 2) (gC (.int 0))) (zab (za7 (.list false) (zab (za2 (zaa 2) (gC (.int 0))) (zah))) (zah)))) (zah)))) (zad (zej (.tup [4, 5]) (zi7 (zaa 2)) (zad (zej (.one 6) (zfl (zdm false false true (zaa 2) (gC .non) (zaa 4))) (zad (zbh (zlp (zax (zbb .ne (zaa 5) (zaa 6))) (zax (zbb .eq (zam 44 c (zab (zaa 1) (zab (zaa 5) (zah)))) (zam 44 c (zab (zaa 1) (zab (zaa 6) (zah))))))) (zad (zin (zaa 3) (zc2 (zab (zaa 5) (zab (za7 (.list false) (zab (zaa 6) (zah))) (zah))))) (zai)) (zai)) (zai))) (zai))) (zad (zay (zaa 3)) (zai))))
def zkd (c : Call) : GS := zad (zad (sEx (zam 18 c (zab (zaa 0) (zab (zaa 1) (zah))))) (zai)) (zad (zay (gC (.bl true))) (zai))
def zjc (c : Call) : GS := zad (zbh (zdg (zax (zam 4 c (zab (gC (.int 2)) (zab (zaa 1) (zah)))))) (zad (zay (gC (.bl false))) (zai)) (zai)) (zad (zar (.tup [2, 3]) (zaa 1)) (zad (zay (ze5 (zam 52 c (zab (zaa 0) (zab (zaa 2) (zah)))) (ze5 (zam 52 c (zab (zaa 0) (zab (zaa 3) (zah)))) (zbb .isN (zam 48 c (zab (zaa 0) (zab (zaa 2) (zab (zaa 3) (zah))))) (gC .non))))) (zai)))
def zg6 (c : Call) : GS := zad (sEx (zam 13 c (zab (zaa 0) (zah)))) (zad (zej (.tup [2, 3]) (zi7 (zaa 1)) (zad (zbh (zdg (zax (zam 53 c (zab (zaa 0) (zab (zaa 3) (zah)))))) (zad (zj0) (zai)) (zai)) (zai))) (zai))
def zgk (c : Call) : GS := zad (zar (.tup [3, 4, 5]) (zaa 2)) (zad (zbh (tOr (zdg (zax (zam 0 c (zab (zaa 3) (zab (gC (.int 0)) (zab (za7 .len (zab (zaa 1) (zah))) (zah))))))) (zdg (zax (zam 0 c (zab (zaa 4) (zab (gC (.int 0)) (zab (zav false .sub (za7 .len (zab (zaa 0) (zah))) (gC (.int 1))) (zah)))))))) (zad (zay (gC .non)) (zai)) (zai)) (zad (zar (.tup [6, 7]) (za2 (zaa 0) (zaa 4))) (zad (zbh (zax (zaa 5)) (zad (sPar 6 7 (zab (zaa 7) (zab (zaa 6) (zah)))) (zai)) (zai)) (zad (zar (.one 8) (zav false .add (zaa 3) (za7 .len (zab (zaa 6) (zah))))) (zad (zbh (zax (zbb .ne (zdm false true true (zaa 1) (zaa 3) (zaa 8)) (zaa 6))) (zad (zay (gC .non)) (zai)) (zai)) (zad (zar (.one 9) (zav true .add (zav false .add (zdm false false true (zaa 1) (gC .non) (zaa 3)) (zaa 7)) (zdm false true false (zaa 1) (zaa 8) (gC .non)))) (zad (zay (zh4 (zax (zbb .le (za7 .len (zab (zaa 9) (zah))) (gC (.int 40)))) (zaa 9) (gC .non))) (zai))))))))
def zi9 (c : Call) : GS := zad (sEx (zam 18 c (zab (zaa 0) (zab (zaa 2) (zah))))) (zad (sEx (zam 54 c (zab (zaa 0) (zab (zaa 1) (zah))))) (zad (zar (.one 4) (za7 (.list true) (zab (zaa 2) (zah)))) (zad (zej (.tup [5, 6]) (zi7 (zaa 3)) (zad (zar (.one 7) (zam 55 c (zab (zaa 1) (zab (zaa 4) (zab (zaa 6) (zah)))))) (zad (zbh (zax (zbb .isN (zaa 7) (gC .non))) (zad (zj0) (zai)) (zai)) (zad (zar (.one 4) (zaa 7)) (zai))))) (zad (zay (zaa 4)) (zai)))))
def zgn (c : Call) : GS := zad (zay (zb6 false 2 (.tup [0, 1]) (zfl (zaa 0)) (zb8 (zc2 (zab (za7 (.list false) (zab (zaa 0) (zah))) (zab (za7 (.list false) (zab (zaa 1) (zah))) (zah))))))) (zai)
def zm8 (c : Call) : GS := zad (zar (.tup [3, 4, 5]) (zaa 2)) (zad (zbh (tOr (zax (zbb .lt (zaa 4) (gC (.int 0)))) (tOr (zax (zbb .ge (zaa 4) (za7 .len (zab (zaa 0) (zah))))) (tOr (zax (zbb .lt (zaa 3) (gC (.int 0)))) (zax (zbb .gt (zaa 3) (za7 .len (zab (zaa 1) (zah)))))))) (zad (zay (gC .non)) (zai)) (zai)) (zad (zar (.tup [6, 7]) (zh4 (zax (zaa 5)) (gRev false (za2 (zaa 0) (zaa 4))) (za2 (zaa 0) (zaa 4)))) (zad (zbh (zax (zbb .ne (zdm false true true (zaa 1) (zaa 3) (zav false .add (zaa 3) (za7 .len (zab (zaa 6) (zah))))) (za7 (.list false) (zab (zaa 6) (zah))))) (zad (zay (gC .non)) (zai)) (zai)) (zad (zar (.one 8) (zav false .add (zav false .add (zdm false false true (zaa 1) (gC .non) (zaa 3)) (za7 (.list false) (zab (zaa 7) (zah)))) (zdm false true false (zaa 1) (zav false .add (zaa 3) (za7 .len (zab (zaa 6) (zah)))) (gC .non)))) (zad (zay (zh4 (zax (zbb .lt (za7 .len (zab (zaa 8) (zah))) (gC (.int 41)))) (zaa 8) (gC .non))) (zai))))))
def zl2 (c : Call) : GS := zad (zar (.one 3) (zam 31 c (zab (zaa 0) (zab (za7 .len (zab (zaa 1) (zah))) (zah))))) (zad (zar (.one 4) (zbb .eq (zam 31 c (zab (zaa 0) (zab (gC (.int 2)) (zah)))) (gC (.int 1)))) (zad (zar (.one 5) (zb6 false 1 (.one 0) (zc0 (zav false .add (za7 .len (zab (zaa 2) (zah))) (gC (.int 1)))) (zb8 (zc2 (zab (zaa 0) (zab (zaa 4) (zab (zaa 5) (zah)))))))) (zad (zar (.one 5) (zb6 false 1 (.one 0) (zfl (zaa 5)) (gIf (zax (zbb .notN (zam 58 c (zab (zaa 2) (zab (zaa 3) (zab (zaa 0) (zah))))) (gC .non))) (zb8 (zaa 0))))) (zad (zay (zh4 (zax (zbb .ne (zaa 5) (zc3 false (zah)))) (za2 (zaa 5) (zam 31 c (zab (zaa 0) (zab (za7 .len (zab (zaa 5) (zah))) (zah))))) (gC .non))) (zai)))))
def z0w (c : Call) : GS := zad (zar (.one 1) (zam 29 c (zab (zaa 0) (zah)))) (zad (zej (.one 2) (zc0 (gC (.int 4))) (zad (zar (.one 3) (zam 34 c (zab (zam 30 c (zab (zaa 1) (zah))) (zab (gC (.int 3)) (zab (gC (.int 2)) (zab (gC (.int 5)) (zah))))))) (zad (zar (.one 4) (zam 49 c (zab (zaa 1) (zab (zaa 3) (zah))))) (zad (zar (.one 5) (zb6 false 1 (.one 0) (zc0 (zav false .add (gC (.int 1)) (zam 31 c (zab (zaa 1) (zab (gC (.int 5)) (zah)))))) (zb8 (za2 (zaa 5) (zam 31 c (zab (zaa 2) (zab (za7 .len (zab (zaa 5) (zah))) (zah)))))))) (zad (zar (.one 6) (zam 35 c (zab (zaa 1) (zab (zaa 3) (zab (za2 (zc3 false (zab (gC (.int 10)) (zab (gC (.int 10)) (zab (gC (.int 40)) (zab (gC (.int 3)) (zah)))))) (zaa 2)) (zah)))))) (zad (zar (.one 7) (zc3 true (zah))) (zad (zar (.one 8) (zaa 6)) (zad (zej (.one 9) (zc0 (zam 31 c (zab (zaa 1) (zab (gC (.int 9)) (zah))))) (zad (zar (.one 10) (zam 59 c (zab (zaa 1) (zab (zaa 5) (zab (zaa 8) (zah)))))) (zad (zbh (zax (zbb .notN (zaa 10) (gC .non))) (zad (zin (zaa 7) (zaa 10)) (zad (zar (.one 8) (zam 58 c (zab (zaa 5) (zab (zaa 8) (zab (zaa 10) (zah)))))) (zai))) (zai)) (zai)))) (zad (zar (.one 11) (zc3 false (zab (zam 57 c (zab (zaa 5) (zah))) (zab (za7 (.list false) (zab (zaa 6) (zah))) (zab (za7 (.list false) (zab (zaa 7) (zah))) (zah)))))) (zad (zej (.one 12) (zc0 (gC (.int 2))) (zad (zar (.one 13) (zam 56 c (zab (zaa 3) (zab (za2 (zaa 11) (gC (.int 0))) (zab (za2 (zaa 11) (gC (.int 1))) (zab (za2 (zaa 11) (gC (.int 2))) (zah))))))) (zad (zbh (tOr (zdg (zax (zam 40 c (zab (zaa 13) (zab (zaa 8) (zah)))))) (zax (zbb .ne (zam 44 c (zab (zaa 3) (zab (zaa 13) (zah)))) (zam 44 c (zab (zaa 3) (zab (zaa 6) (zah))))))) (zad (zay (gC (.bl false))) (zai)) (zai)) (zad (zbh (zax (zbb .ne (zaa 11) (zc3 false (zab (zaa 5) (zab (zaa 6) (zab (zaa 7) (zah))))))) (zad (zay (gC (.bl false))) (zai)) (zai)) (zad (zin (zaa 13) (gC (.int 0))) (zai)))))) (zai))))))))))) (zad (zay (gC (.bl true))) (zai)))
def zgm (c : Call) : GS := zad (zar (.one 4) (za7 (.list false) (zab (za2 (za2 (zaa 0) (zaa 2)) (gInt (zaa 3))) (zah)))) (zad (zar (.one 5) (za2 (za2 (zaa 0) (zaa 2)) (zav false .sub (gC (.int 1)) (gInt (zaa 3))))) (zad (zar (.one 6) (zb6 false 1 (.one 0) (zc0 (zav false .add (za7 .len (zab (zaa 1) (zah))) (gC (.int 1)))) (gIf (zax (zbb .eq (zdm false true true (zaa 2) (zaa 0) (zav false .add (zaa 0) (za7 .len (zab (zaa 5) (zah))))) (zaa 5))) (zb8 (zaa 0))))) (zad (zay (zh4 (zax (zbb .lt (zav false .add (zav false .sub (za7 .len (zab (zaa 1) (zah))) (za7 .len (zab (zaa 4) (zah)))) (za7 .len (zab (zaa 5) (zah)))) (gC (.int 41)))) (zaa 6) (zc3 false (zah)))) (zai))))
def zhn (c : Call) : GS := zad (zar (.one 4) (zc3 true (zah))) (zad (zar (.one 5) (zaa 3)) (zad (zej (.one 6) (zc0 (zav false .add (gC (.int 2)) (zam 31 c (zab (zaa 0) (zab (gC (.int 6)) (zah)))))) (zad (zar (.one 7) (zam 31 c (zab (zaa 0) (zab (za7 .len (zab (zaa 2) (zah))) (zah))))) (zad (zar (.one 8) (zbb .eq (zam 31 c (zab (zaa 0) (zab (gC (.int 2)) (zah)))) (gC (.int 1)))) (zad (zar (.one 9) (zam 61 c (zab (zaa 2) (zab (zaa 5) (zab (zaa 7) (zab (zaa 8) (zah))))))) (zad (zbh (zax (zbb .ne (zaa 9) (zc3 false (zah)))) (zad (zar (.one 10) (zc2 (zab (za2 (zaa 9) (zam 31 c (zab (zaa 0) (zab (za7 .len (zab (zaa 9) (zah))) (zah))))) (zab (zaa 7) (zab (zaa 8) (zah)))))) (zad (zar (.one 5) (zam 56 c (zab (zaa 1) (zab (zam 57 c (zab (zaa 2) (zah))) (zab (za7 (.list false) (zab (zaa 5) (zah))) (zab (zc3 false (zab (zaa 10) (zah))) (zah))))))) (zad (zin (zaa 4) (zaa 10)) (zai)))) (zai)) (zai)))))) (zad (zay (zc2 (zab (zaa 4) (zab (zaa 5) (zah))))) (zai))))
def zle (c : Call) : GS := zad (zar (.one 1) (zam 29 c (zab (zaa 0) (zah)))) (zad (zej (.one 2) (zc0 (gC (.int 4))) (zad (zar (.one 3) (zam 34 c (zab (zam 30 c (zab (zaa 1) (zah))) (zab (gC (.int 3)) (zab (gC (.int 2)) (zab (gC (.int 5)) (zah))))))) (zad (zar (.one 4) (zam 49 c (zab (zaa 1) (zab (zaa 3) (zah))))) (zad (zar (.one 5) (zav false .add (zb6 false 1 (.one 0) (zc0 (gC (.int 3))) (zb8 (za2 (zaa 5) (zam 31 c (zab (zaa 2) (zab (za7 .len (zab (zaa 5) (zah))) (zah))))))) (zc3 false (zab (za2 (zaa 4) (ziv (gC (.int 1)))) (zah))))) (zad (zar (.one 6) (zam 35 c (zab (zaa 1) (zab (zaa 3) (zab (gC (.int 8)) (zah)))))) (zad (zar (.tup [7, 8]) (zam 62 c (zab (zaa 1) (zab (zaa 3) (zab (zaa 5) (zab (zaa 6) (zah))))))) (zad (zar (.one 9) (zam 31 c (zab (zaa 1) (zab (zav false .add (za7 .len (zab (zaa 7) (zah))) (gC (.int 1))) (zah))))) (zad (zar (.one 10) (zam 56 c (zab (zaa 3) (zab (zam 57 c (zab (zaa 5) (zah))) (zab (za7 (.list false) (zab (zaa 6) (zah))) (zab (zdm false false true (zaa 7) (gC .non) (zaa 9)) (zah))))))) (zad (zbh (zax (zbb .ne (zam 56 c (zab (zaa 3) (zab (zam 57 c (zab (zaa 5) (zah))) (zab (zaa 10) (zab (zdm false true false (zaa 7) (zaa 9) (gC .non)) (zah)))))) (zaa 8))) (zad (zay (gC (.bl false))) (zai)) (zai)) (zad (zbh (zax (zbb .ne (zam 56 c (zab (zaa 3) (zab (zam 57 c (zab (zaa 5) (zah))) (zab (za7 (.list false) (zab (zaa 6) (zah))) (zab (za7 (.list false) (zab (zaa 7) (zah))) (zah)))))) (zaa 8))) (zad (zay (gC (.bl false))) (zai)) (zai)) (zad (zar (.one 11) (zb6 false 3 (.tup [0, 1, 2]) (zfl (gRev false (zaa 7))) (zb8 (zc2 (zab (zaa 0) (zab (zaa 1) (zab (gNot (zaa 2)) (zah)))))))) (zad (zbh (zax (zbb .ne (zam 56 c (zab (zaa 3) (zab (zam 57 c (zab (zaa 5) (zah))) (zab (za7 (.list false) (zab (zaa 8) (zah))) (zab (zaa 11) (zah)))))) (zaa 6))) (zad (zay (gC (.bl false))) (zai)) (zai)) (zad (zbh (tOr (zax (zbb .notN (zam 48 c (zab (zaa 3) (zab (zaa 6) (zab (zaa 8) (zah))))) (gC .non))) (zax (zbb .notN (zam 54 c (zab (zaa 3) (zab (zc3 false (zab (zc2 (zab (zaa 6) (zab (zaa 8) (zah)))) (zah))) (zah)))) (gC .non)))) (zad (zay (gC (.bl false))) (zai)) (zai)) (zad (zar (.one 12) (zam 35 c (zab (zaa 1) (zab (zaa 3) (zab (gC (.int 4)) (zah)))))) (zad (zbh (zax (zbb .notN (zam 48 c (zab (zaa 3) (zab (zav false .add (zaa 12) (zaa 6)) (zab (zav false .add (zaa 12) (zaa 8)) (zah))))) (gC .non))) (zad (zay (gC (.bl false))) (zai)) (zai)) (zad (zbh (zax (zbb .notN (zam 48 c (zab (zaa 3) (zab (zav false .add (zaa 6) (zaa 12)) (zab (zav false .add (zaa 8) (zaa 12)) (zah))))) (gC .non))) (zad (zay (gC (.bl false))) (zai)) (zai)) (zad (zbh (zax (zbb .ne (zam 27 c (zab (zaa 3) (zab (zaa 6) (zah)))) (zam 27 c (zab (zaa 3) (zab (zaa 8) (zah)))))) (zad (zay (gC (.bl false))) (zai)) (zai)) (zai)))))))))))))))))) (zad (zay (gC (.bl true))) (zai)))
end LD
namespace LD
open PySem
theorem okE.mono {α : Type} {r : Res α} {k k' : α -> Mem -> Prop} (h : okE r k) (m : ∀ a M, k a M -> k' a M) : okE r k' := za9 h m
@[simp] theorem zbt {α β : Type} {r : Res α} {f : α -> Mem -> Res β} {k : β -> Mem -> Prop} : okE (r.bind f) k ↔ okE r fun a M => okE (f a M) k := by cases r <;> rfl
@[simp] theorem ok_ok {α : Type} {a : α} {M : Mem} {k : α -> Mem -> Prop} : okE (.ok a M) k ↔ k a M := Iff.rfl
@[simp] theorem ok_bad {α : Type} {k : α -> Mem -> Prop} : okE (.bad : Res α) k ↔ False := Iff.rfl
@[simp] theorem zis {α : Type} {M : Mem} {o : Option α} {k : α -> Mem -> Prop} : okE (ofO M o) k ↔ ∃ a, o = some a /\ k a M := by cases o <;> simp [ofO]
theorem ztk {α : Type} {r : Res α} {k : α -> Mem -> Prop} : okE r k ↔ ∃ a M, r = .ok a M /\ k a M := by
  cases r with
  | ok a M => exact ⟨fun h => ⟨a, M, rfl, h⟩, fun ⟨_, _, e, h⟩ => by cases e; exact h⟩
  | err => simp [okE]
  | bad => simp [okE]
theorem zn7 {x y : D} {M : Mem} {v : Bool} (px : zat 64 (view M x) = true) (py : zat 64 (view M y) = true) (h : zb1 (view M x) (view M y) = v) : zb2 .eq x y M = some v := by
  have e : eqD (view M x) (view M y) = some v := by unfold eqD; rw [px, py, h]; rfl
  show eqM M x y = _
  unfold eqM; rw [e]
theorem zhl {x y : D} {M : Mem} {v : Bool} (px : zat 64 (view M x) = true) (py : zat 64 (view M y) = true) (h : zb1 (view M x) (view M y) = v) : zb2 .ne x y M = some (!v) := by
  show (zb2 .eq x y M).map (!·) = _
  rw [zn7 px py h]; rfl
section
variable {ρ : Env} {M : Mem} {a b d lo hi : GE} {s : GA} {t u : GT} {k : D -> Mem -> Prop} {c : Call}
@[simp] theorem zcj {i : Nat} : okE (zaa i ρ M) k ↔ ∃ d, ρ[i]?.getD none = some d /\ k d M := by simp [zaa]
@[simp] theorem e_c {d : D} : okE (gC d ρ M) k ↔ k d M := Iff.rfl
@[simp] theorem zib {m : Bool} {o : Bin} : okE (zav m o a b ρ M) k ↔ okE (a ρ M) fun x M => okE (b ρ M) fun y M => okE (zey m o x y M) k := by simp [zav]
@[simp] theorem zm2 {o : Cmp} : okE (zbb o a b ρ M) k ↔ okE (a ρ M) fun x M => okE (b ρ M) fun y M => ∃ v, zb2 o x y M = some v /\ k (.bl v) M := by simp [zbb]
@[simp] theorem e_chn {o o' : Cmp} : okE (gChn o o' a b d ρ M) k ↔ okE (a ρ M) fun x M => okE (b ρ M) fun y M => ∃ v, zb2 o x y M = some v /\ if v = true then okE (d ρ M) fun z M => ∃ v, zb2 o' y z M = some v /\ k (.bl v) M else k (.bl false) M := by
  simp only [gChn, zbt, zis]
  refine iff_of_eq ?_
  congr 1; funext x M; congr 1; funext y M; refine propext (exists_congr fun v => and_congr_right fun _ => ?_)
  cases v <;> simp
@[simp] theorem e_neg : okE (ziv a ρ M) k ↔ okE (a ρ M) fun x M => ∃ i, x = .int i /\ k (.int (-i)) M := by
  simp only [ziv, zbt]; refine iff_of_eq ?_; congr 1; funext x M; cases x <;> simp
@[simp] theorem e_and : okE (ze5 a b ρ M) k ↔ okE (a ρ M) fun x M => ∃ v, x = .bl v /\ if v = true then okE (b ρ M) k else k (.bl false) M := by
  simp only [ze5, zbt]; refine iff_of_eq ?_; congr 1; funext x M; cases x <;> simp
  rename_i v; cases v <;> simp
@[simp] theorem e_or : okE (gOr a b ρ M) k ↔ okE (a ρ M) fun x M => ∃ v, x = .bl v /\ if v = true then k (.bl true) M else okE (b ρ M) k := by
  simp only [gOr, zbt]; refine iff_of_eq ?_; congr 1; funext x M; cases x <;> simp
  rename_i v; cases v <;> simp
@[simp] theorem e_not : okE (gNot a ρ M) k ↔ okE (a ρ M) fun x M => ∃ v, x = .bl v /\ k (.bl (!v)) M := by
  simp only [gNot, zbt]; refine iff_of_eq ?_; congr 1; funext x M; cases x <;> simp
@[simp] theorem e_ite : okE (zh4 t a b ρ M) k ↔ okE (t ρ M) fun v M => if v = true then okE (a ρ M) k else okE (b ρ M) k := by
  simp only [zh4, zbt]; refine iff_of_eq ?_; congr 1; funext v M; cases v <;> simp
@[simp] theorem zia : okE (za2 a b ρ M) k ↔ okE (a ρ M) fun x M => okE (b ρ M) fun y M => ∃ d, zcp x y M = some d /\ k d M := by simp [za2]
@[simp] theorem ztx {m hl hh : Bool} : okE (zdm m hl hh a lo hi ρ M) k ↔ okE (a ρ M) fun x M => okE (lo ρ M) fun l M => okE (hi ρ M) fun h M => zcv hl l = true /\ zcv hh h = true /\ okE (zb7 m x l h M) k := by
  simp only [zdm, zbt]
  refine iff_of_eq ?_
  congr 1; funext x M; congr 1; funext l M; congr 1; funext h M
  cases zcv hl l <;> cases zcv hh h <;> simp
@[simp] theorem zdp {k : List D -> Mem -> Prop} : okE (zah ρ M) k ↔ k [] M := Iff.rfl
@[simp] theorem zcw {k : List D -> Mem -> Prop} : okE (zab a s ρ M) k ↔ okE (a ρ M) fun x M => okE (s ρ M) fun xs M => k (x :: xs) M := by simp [zab]
@[simp] theorem e_tup : okE (zc2 s ρ M) k ↔ okE (s ρ M) fun xs M => xs.length ≤ sz /\ k (.tup xs) M := by
  simp only [zc2, zbt]; refine iff_of_eq ?_; congr 1; funext xs M; unfold zj4; split <;> simp [*]
theorem zqm {m : Bool} {xs : List D} : okE (zbn m xs M) k ↔ xs.length ≤ sz /\ if m = true then k (.cell M.length) (M ++ [xs]) else k (.lst xs) M := by
  unfold zbn; cases m <;> split <;> simp [*]
@[simp] theorem zce {xs : List D} : okE (zbn false xs M) k ↔ xs.length ≤ sz /\ k (.lst xs) M := by simp [zqm]
@[simp] theorem zjm {xs : List D} : okE (zbn true xs M) k ↔ xs.length ≤ sz /\ k (.cell M.length) (M ++ [xs]) := by simp [zqm]
@[simp] theorem zty {m : Bool} : okE (zc3 m s ρ M) k ↔ okE (s ρ M) fun xs M => okE (zbn m xs M) k := by simp [zc3]
@[simp] theorem zd1 {f : Nat} : okE (zam f c s ρ M) k ↔ okE (s ρ M) fun ds M => okE (c f ds M) k := by simp [zam]
@[simp] theorem z0j {i : Nat} : okE (zku i c s ρ M) k ↔ ∃ f, ρ[i]?.getD none = some (.fn f) /\ okE (s ρ M) fun ds M => okE (c f ds M) k := by
  unfold zku
  cases e : ρ[i]?.getD none with
  | none => simp
  | some d => cases d <;> simp
@[simp] theorem zm3 {f : Blt} : okE (za7 f s ρ M) k ↔ okE (s ρ M) fun ds M => okE (zex f ds M) k := by simp [za7]
@[simp] theorem e_inst {t : Ty} : okE (zdh t a ρ M) k ↔ okE (a ρ M) fun x M => ∃ v, zfk t x = some v /\ k (.bl v) M := by simp [zdh]
@[simp] theorem e_dget {fs : List (Str × Nat)} : okE (zk6 fs a ρ M) k ↔ okE (a ρ M) fun x M => ∃ y f, x = .str y /\ fs.lookup y = some f /\ k (.fn f) M := by
  simp only [zk6, zbt]; refine iff_of_eq ?_; congr 1; funext x M; cases x <;> simp
  exact ⟨fun ⟨_, ⟨f, h, e⟩, q⟩ => ⟨f, h, e ▸ q⟩, fun ⟨f, h, q⟩ => ⟨_, ⟨f, h, rfl⟩, q⟩⟩
@[simp] theorem e_dnot {fs : List (Str × Nat)} : okE (zk5 fs a ρ M) k ↔ okE (a ρ M) fun x M => ∃ y, x = .str y /\ k (.bl (!(fs.lookup y).isSome)) M := by
  simp only [zk5, zbt]; refine iff_of_eq ?_; congr 1; funext x M; cases x <;> simp
@[simp] theorem e_listR {m : Bool} : okE (zm0 m a ρ M) k ↔ okE (a ρ M) fun x M => ∃ n, x = .int n /\ (-(2 ^ 62) ≤ n /\ n < 2 ^ 20) /\ okE (zbn m ((List.range n.toNat).map fun (k : Nat) => D.int (k : Int)) M) k := by
  simp only [zm0, zbt]; refine iff_of_eq ?_; congr 1; funext x M
  cases x <;> simp
  rename_i n
  split <;> simp [*]
variable {kb : Bool -> Mem -> Prop}
@[simp] theorem zmb : okE (zax a ρ M) kb ↔ okE (a ρ M) fun x M => ∃ v, zjh M x = some v /\ kb v M := by simp [zax]
@[simp] theorem t_and : okE (zlp t u ρ M) kb ↔ okE (t ρ M) fun v M => if v = true then okE (u ρ M) kb else kb false M := by
  simp only [zlp, zbt]; refine iff_of_eq ?_; congr 1; funext v M; cases v <;> simp
@[simp] theorem t_or : okE (tOr t u ρ M) kb ↔ okE (t ρ M) fun v M => if v = true then kb true M else okE (u ρ M) kb := by
  simp only [tOr, zbt]; refine iff_of_eq ?_; congr 1; funext v M; cases v <;> simp
@[simp] theorem t_not : okE (zdg t ρ M) kb ↔ okE (t ρ M) fun v M => kb (!v) M := by simp [zdg]
variable {kf : Fl -> Mem -> Prop} {sa sb : GS}
def zma (b : GS) (k : Fl -> Mem -> Prop) : Fl -> Mem -> Prop
  | .next ρ, M => okE (b ρ M) k
  | .ret d, M => k (.ret d) M
@[simp] theorem zch {b : GS} : zma b kf (.next ρ) M ↔ okE (b ρ M) kf := Iff.rfl
@[simp] theorem then_ret {b : GS} {d : D} : zma b kf (.ret d) M ↔ kf (.ret d) M := Iff.rfl
@[simp] theorem zby : okE (zad sa sb ρ M) kf ↔ okE (sa ρ M) (zma sb kf) := by
  simp only [zad, zbt]; refine iff_of_eq ?_; congr 1; funext fl M; cases fl <;> rfl
@[simp] theorem zmm : okE (zai ρ M) kf ↔ kf (.next ρ) M := Iff.rfl
@[simp] theorem zda {i : Nat} : okE (zar (.one i) a ρ M) kf ↔ okE (a ρ M) fun x M => kf (.next (ρ.set i (some x))) M := by simp [zar, zc1]
@[simp] theorem s_asgt {l : List Nat} : okE (zar (.tup l) a ρ M) kf ↔ okE (a ρ M) fun x M => ∃ ds ρ1, x = .tup ds /\ zct l ds ρ = some ρ1 /\ kf (.next ρ1) M := by
  simp only [zar, zbt, zis, ok_ok]; refine iff_of_eq ?_; congr 1; funext x M; cases x <;> simp [zc1]
@[simp] theorem zml : okE (zfz a b d ρ M) kf ↔ okE (d ρ M) fun z M => okE (a ρ M) fun x M => okE (b ρ M) fun y M => ∃ j n ds i, x = .cell j /\ y = .int n /\ M[j]? = some ds /\ ixN ds.length n = some i /\ kf (.next ρ) (M.set j (ds.set i z)) := by
  simp only [zfz, zbt]
  refine iff_of_eq ?_
  congr 1; funext z M; congr 1; funext x M; congr 1; funext y M
  cases x <;> cases y <;> simp
  rename_i j n
  cases e : M[j]? with
  | none => simp
  | some ds =>
    cases e2 : ixN ds.length n with
    | none => simp [e2]
    | some i => simp [e2]
@[simp] theorem s_app_ : okE (zin a d ρ M) kf ↔ okE (a ρ M) fun x M => okE (d ρ M) fun z M => ∃ j ds, x = .cell j /\ M[j]? = some ds /\ ds.length < sz /\ kf (.next ρ) (M.set j (ds ++ [z])) := by
  simp only [zin, zbt]
  refine iff_of_eq ?_
  congr 1; funext x M; congr 1; funext z M
  cases x <;> simp
  rename_i j
  cases e : M[j]? with
  | none => simp
  | some ds => by_cases h : ds.length < sz <;> simp [h]
@[simp] theorem s_ex_ : okE (sEx a ρ M) kf ↔ okE (a ρ M) fun _ M => kf (.next ρ) M := by simp [sEx]
@[simp] theorem s_ret_ : okE (zay a ρ M) kf ↔ okE (a ρ M) fun x M => kf (.ret x) M := by simp [zay]
@[simp] theorem s_retN_ : okE (sRetN ρ M) kf ↔ kf (.ret .non) M := Iff.rfl
@[simp] theorem s_pass_ : okE (sPass ρ M) kf ↔ kf (.next ρ) M := Iff.rfl
@[simp] theorem s_bad_ : okE (zj0 ρ M) kf ↔ False := Iff.rfl
@[simp] theorem zkn : okE (zbh t sa sb ρ M) kf ↔ okE (t ρ M) fun v M => if v = true then okE (sa ρ M) kf else okE (sb ρ M) kf := by
  simp only [zbh, zbt]; refine iff_of_eq ?_; congr 1; funext v M; cases v <;> simp
variable {kw : Walk -> Mem -> Prop}
@[simp] theorem zl9 : okE (zc0 a ρ M) kw ↔ okE (a ρ M) fun x M => ∃ n, x = .int n /\ (-(2 ^ 62) ≤ n /\ n < 2 ^ 62) /\ kw (fun _ => some ((List.range n.toNat).map fun (k : Nat) => D.int (k : Int))) M := by
  simp only [zc0, zbt]; refine iff_of_eq ?_; congr 1; funext x M; cases x <;> simp
  rename_i n
  split <;> simp [*]
@[simp] theorem w_seq : okE (zfl a ρ M) kw ↔ okE (a ρ M) fun x M => zen x = true /\ kw (fun M => zcm M x) M := by
  simp only [zfl, zbt]; refine iff_of_eq ?_; congr 1; funext x M; cases x <;> simp [zen] <;> rfl
@[simp] theorem w_enum : okE (zi7 a ρ M) kw ↔ okE (a ρ M) fun x M => (zen x && zgj x) = true /\ kw (fun M => (zcm M x).map (zdw 0)) M := by
  simp only [zi7, zbt]; refine iff_of_eq ?_; congr 1; funext x M; cases x <;> simp [zen, zgj] <;> rfl
@[simp] theorem w_zip2 : okE (ztv a b ρ M) kw ↔ okE (a ρ M) fun x M => okE (b ρ M) fun y M => (zen x && zen y) = true /\ kw (zipW2 x y) M := by
  simp only [ztv, zbt]; refine iff_of_eq ?_; congr 1; funext x M; congr 1; funext y M; split <;> simp [*]
def zkv (k : D -> Mem -> Prop) : Fl -> Mem -> Prop
  | .ret d, M => k d M
  | .next _, M => k .non M
@[simp] theorem fin_ret {d : D} : zkv k (.ret d) M ↔ k d M := Iff.rfl
@[simp] theorem fin_next : zkv k (.next ρ) M ↔ k .non M := Iff.rfl
theorem za8 {P : Nat -> Option Df} {n f : Nat} {d : Df} {ds : List D} (e : P f = some d) (hl : ds.length = d.params) (h : okE (d.body (za0 P n) (ds.map some ++ List.replicate (d.slots - ds.length) none) M) (zkv k)) : okE (za0 P (n + 1) f ds M) k := by
  show okE (match P f with | none => Res.bad | some d => zh1 (za0 P n) d ds M) k
  rw [e]
  show okE (zh1 (za0 P n) d ds M) k
  unfold zh1
  rw [if_pos hl]
  simp only [zbt]
  refine za9 h fun fl M q => ?_
  cases fl <;> exact q
theorem ztq {α : Type} (f : α -> D -> Mem -> Res α) (ds : List D) : ∀ (m i : Nat) (a : α) (M : Mem), ds.length - i < m -> i ≤ ds.length -> zfj f (fun _ => some ds) m i a M = eachR f (ds.drop i) a M
  | 0, i, a, M, h, _ => absurd h (Nat.not_lt_zero _)
  | m + 1, i, a, M, h, hi => by
    show (match ds[i]? with | none => Res.ok a M | some d => (f a d M).bind (zfj f (fun _ => some ds) m (i + 1))) = _
    by_cases hlt : i < ds.length
    · rw [List.drop_eq_getElem_cons hlt, List.getElem?_eq_getElem hlt]
      show (f a ds[i] M).bind _ = (f a ds[i] M).bind _
      congr 1
      funext a M
      exact ztq f ds m (i + 1) a M (by omega) hlt
    · have e : i = ds.length := by omega
      subst e
      rw [List.getElem?_eq_none (Nat.le_refl _), List.drop_length]
      rfl
theorem zhe {α : Type} {f : α -> D -> Mem -> Res α} {w : Walk} {ds : List D} {a : α} {k : α -> Mem -> Prop} (I : Nat -> α -> Mem -> Prop) (hw : ∀ i a M, I i a M -> w M = some ds) (h0 : I 0 a M)
    (hs : ∀ i d a M, ds[i]? = some d -> I i a M -> okE (f a d M) (I (i + 1))) (hk : ∀ a M, I ds.length a M -> k a M) : okE (zdu f w a M) k := by
  have key : ∀ (m i : Nat) (a : α) (M : Mem), ds.length - i < m -> i ≤ ds.length -> I i a M -> okE (zfj f w m i a M) k := by
    intro m
    induction m with
    | zero => intro i a M h; exact absurd h (Nat.not_lt_zero _)
    | succ m ih =>
      intro i a M h hi hI
      show okE (match w M with | none => Res.bad | some ds => match ds[i]? with | none => Res.ok a M | some d => (f a d M).bind (zfj f w m (i + 1))) k
      rw [hw i a M hI]
      dsimp only
      by_cases hlt : i < ds.length
      · rw [List.getElem?_eq_getElem hlt]
        simp only [zbt]
        exact za9 (hs i ds[i] a M (List.getElem?_eq_getElem hlt) hI) fun a' M' h' => ih (i + 1) a' M' (by omega) hlt h'
      · have e : i = ds.length := by omega
        subst e
        rw [List.getElem?_eq_none (Nat.le_refl _)]
        exact hk a M hI
  unfold zdu
  rw [hw 0 a M h0]
  exact key _ 0 a M (by simp) (Nat.zero_le _) h0
theorem zeb {t : Tgt} {w : Walk} {gb : GS} {ds : List D} (I : Nat -> Env -> Mem -> Prop) (hw : ∀ i ρ M, I i ρ M -> w M = some ds) (h0 : I 0 ρ M)
    (hs : ∀ i d ρ M, ds[i]? = some d -> I i ρ M -> ∃ ρ1, zc1 t d ρ = some ρ1 /\ okE (gb ρ1 M) fun fl M => ∃ ρ', fl = .next ρ' /\ I (i + 1) ρ' M) (hk : ∀ ρ M, I ds.length ρ M -> kf (.next ρ) M) : okE (zdu (zgv t gb) w (.next ρ) M) kf := by
  refine zhe (fun i fl M => ∃ ρ, fl = .next ρ /\ I i ρ M) (fun i fl M ⟨ρ, _, h⟩ => hw i ρ M h) ⟨ρ, rfl, h0⟩ ?_ ?_
  · rintro i d fl M hd ⟨ρ, rfl, hI⟩
    obtain ⟨ρ1, e, h⟩ := hs i d ρ M hd hI
    simp only [zgv, zbt, zis, e]
    exact ⟨ρ1, rfl, h⟩
  · rintro fl M ⟨ρ, rfl, hI⟩
    exact hk ρ M hI
@[simp] theorem zu4 {tg : Tgt} {w : GW} {gb : GS} : okE (zej tg w gb ρ M) kf ↔ okE (w ρ M) fun w M => okE (zdu (zgv tg gb) w (.next ρ) M) kf := by simp [zej]
@[simp] theorem zq8 {m : Bool} {n : Nat} {tg : Tgt} {w : GW} {g : GB} : okE (zb6 m n tg w g ρ M) k ↔ okE (w ρ M) fun w M => okE (zdu (zdv tg g (List.replicate n none ++ ρ)) w [] M) fun acc M => okE (zbn m acc M) k := by simp [zb6]
variable {kl : List D -> Mem -> Prop}
@[simp] theorem b_fin {ge : GE} {acc : List D} : okE (zb8 ge ρ acc M) kl ↔ okE (ge ρ M) fun x M => acc.length < sz /\ kl (acc ++ [x]) M := by
  simp only [zb8, zbt]; refine iff_of_eq ?_; congr 1; funext x M; split <;> simp [*]
theorem comp_map {tg : Tgt} {w : Walk} {ge : GE} {ds : List D} {ρ0 : Env} (I : Nat -> List D -> Mem -> Prop) (hz : ds.length ≤ sz) (hw : ∀ i acc M, I i acc M -> w M = some ds) (h0 : I 0 [] M)
    (hs : ∀ i d acc M, ds[i]? = some d -> acc.length = i -> I i acc M -> ∃ ρ1, zc1 tg d ρ0 = some ρ1 /\ okE (ge ρ1 M) fun x M => I (i + 1) (acc ++ [x]) M) (hk : ∀ acc M, acc.length = ds.length -> I ds.length acc M -> kl acc M) :
    okE (zdu (zdv tg (zb8 ge) ρ0) w [] M) kl := by
  refine zhe (fun i acc M => acc.length = i /\ I i acc M) (fun i acc M h => hw i acc M h.2) ⟨rfl, h0⟩ ?_ (fun acc M h => hk acc M h.1 h.2)
  rintro i d acc M hd ⟨hl, hI⟩
  obtain ⟨ρ1, e, h⟩ := hs i d acc M hd hl hI
  have hi : i < ds.length := (List.getElem?_eq_some_iff.mp hd).1
  simp only [zdv, zbt, zis, e, b_fin]
  exact ⟨ρ1, rfl, za9 h fun x M h => ⟨by omega, by simp [hl], h⟩⟩
end
end LD
namespace LD
open PySem
structure ziw (P : Nat -> Option Df) : Prop where
  is_between : P 0 = some ⟨3, 3, zg8⟩
  is_word : P 1 = some ⟨2, 2, zja⟩
  is_place : P 2 = some ⟨2, 2, zie⟩
  is_cost : P 3 = some ⟨1, 1, zjf⟩
  is_tuple_of : P 4 = some ⟨2, 2, zfp⟩
  is_table : P 5 = some ⟨2, 2, zid⟩
  is_double_table : P 6 = some ⟨2, 2, ze0⟩
  is_turn : P 7 = some ⟨3, 6, zjb⟩
  is_join : P 8 = some ⟨3, 7, zje⟩
  is_move : P 9 = some ⟨3, 6, zjd⟩
  is_put : P 10 = some ⟨3, 6, zke⟩
  is_deed : P 11 = some ⟨3, 5, zf4⟩
  is_machine : P 12 = some ⟨1, 4, zg7⟩
  need_machine : P 13 = some ⟨1, 1, zgd⟩
  is_deed_number : P 16 = some ⟨2, 2, zfm⟩
  need_numbers : P 17 = some ⟨2, 4, zgc⟩
  need_row : P 18 = some ⟨2, 2, zic⟩
  turned : P 20 = some ⟨2, 6, zj9⟩
  joined : P 21 = some ⟨2, 7, zkc⟩
  moved : P 22 = some ⟨2, 6, zld⟩
  put_in : P 23 = some ⟨2, 6, zka⟩
  done : P 24 = some ⟨2, 4, zm7⟩
  all_standing : P 25 = some ⟨3, 5, zge⟩
structure zl4 (P : Nat -> Option Df) : Prop where
  law_spread : P 28 = some ⟨2, 6, zgl⟩
  law_open : P 29 = some ⟨1, 4, zho⟩
  law_anew : P 30 = some ⟨1, 1, zhq⟩
  law_take : P 31 = some ⟨2, 5, zjj⟩
  law_tab : P 32 = some ⟨2, 6, zif⟩
  law_deed : P 33 = some ⟨3, 7, zhp⟩
  law_machine : P 34 = some ⟨4, 8, zgf⟩
  law_row : P 35 = some ⟨3, 6, zig⟩
@[simp] theorem env_z {d : Option D} {r : Env} : (d :: r)[0]?.getD none = d := rfl
section
variable {M : Mem} {k : D -> Mem -> Prop}
theorem zit {α : Type} {c : Prop} [Decidable c] {r : Res α} {k : α -> Mem -> Prop} : okE (if c then r else .bad) k ↔ c /\ okE r k := by split <;> simp [*]
@[simp] theorem zh0 {m : Bool} {i j : Int} : okE (zey m .add (.int i) (.int j) M) k ↔ k (.int (i + j)) M := Iff.rfl
@[simp] theorem zpt {m : Bool} {i j : Int} : okE (zey m .sub (.int i) (.int j) M) k ↔ k (.int (i - j)) M := Iff.rfl
@[simp] theorem zqw {m : Bool} {i j : Int} : okE (zey m .mul (.int i) (.int j) M) k ↔ ((-(2 ^ 64) < i /\ i < 2 ^ 64) \/ (-(2 ^ 64) < j /\ j < 2 ^ 64)) /\ k (.int (i * j)) M := zit
@[simp] theorem zmv {m : Bool} {i j : Int} : okE (zey m .mod (.int i) (.int j) M) k ↔ 0 < j /\ k (.int (i % j)) M := zit
@[simp] theorem fdiv_ii {m : Bool} {i j : Int} : okE (zey m .fdiv (.int i) (.int j) M) k ↔ (0 < j /\ j < 1073741824) /\ k (.int (i / j)) M := zit
@[simp] theorem zqd {m : Bool} {i j : Int} : okE (zey m .pow (.int i) (.int j) M) k ↔ (0 ≤ j /\ j ≤ 1000000 /\ i.natAbs < 2 ^ 64) /\ k (.int (i ^ j.toNat)) M := zit
@[simp] theorem zwk {m : Bool} {x y : List D} : okE (zey m .add (.tup x) (.tup y) M) k ↔ (x ++ y).length ≤ sz /\ k (.tup (x ++ y)) M := by
  show okE (zj4 _ _) k ↔ _
  unfold zj4; exact zit
@[simp] theorem zwl {m : Bool} {x y : List D} : okE (zey m .add (.lst x) (.lst y) M) k ↔ okE (zbn m (x ++ y) M) k := Iff.rfl
@[simp] theorem v_c_lt {i j : Int} : zb2 .lt (.int i) (.int j) M = some (decide (i < j)) := rfl
@[simp] theorem v_c_le {i j : Int} : zb2 .le (.int i) (.int j) M = some (decide (i ≤ j)) := rfl
@[simp] theorem v_c_gt {i j : Int} : zb2 .gt (.int i) (.int j) M = some (decide (j < i)) := rfl
@[simp] theorem v_c_ge {i j : Int} : zb2 .ge (.int i) (.int j) M = some (decide (j ≤ i)) := rfl
@[simp] theorem c_eqi {i j : Int} : zb2 .eq (.int i) (.int j) M = some (i == j) := rfl
@[simp] theorem c_nei {i j : Int} : zb2 .ne (.int i) (.int j) M = some (!(i == j)) := rfl
@[simp] theorem tru_bl {b : Bool} : zjh M (.bl b) = some b := rfl
@[simp] theorem tru_tup {ds : List D} : zjh M (.tup ds) = some (!ds.isEmpty) := rfl
@[simp] theorem tru_lst {ds : List D} : zjh M (.lst ds) = some (!ds.isEmpty) := rfl
@[simp] theorem len_tup {ds : List D} : okE (zex .len [.tup ds] M) k ↔ k (.int ds.length) M := Iff.rfl
@[simp] theorem len_lst {ds : List D} : okE (zex .len [.lst ds] M) k ↔ k (.int ds.length) M := Iff.rfl
@[simp] theorem all_lst {ds : List D} : okE (zex .all [.lst ds] M) k ↔ ∃ bs, boolsOf ds = some bs /\ k (.bl (bs.all id)) M := by
  show okE (match boolsOf ds with | some bs => _ | none => _) k ↔ _
  cases boolsOf ds <;> simp
@[simp] theorem sum_lst {ds : List D} : okE (zex .sum [.lst ds] M) k ↔ ∃ bs, intsOf ds = some bs /\ k (.int bs.sum) M := by
  show okE (match intsOf ds with | some bs => _ | none => _) k ↔ _
  cases intsOf ds <;> simp
@[simp] theorem tuple_lst {ds : List D} : okE (zex .tuple [.lst ds] M) k ↔ k (.tup ds) M := Iff.rfl
@[simp] theorem tuple_cell {j : Nat} : okE (zex .tuple [.cell j] M) k ↔ ∃ ds, M[j]? = some ds /\ k (.tup ds) M := by
  show okE (match M[j]? with | some xs => _ | none => _) k ↔ _
  cases M[j]? <;> simp
@[simp] theorem zhj {m : Bool} {ds : List D} : okE (zex (.list m) [.lst ds] M) k ↔ okE (zbn m ds M) k := Iff.rfl
@[simp] theorem zgu {ds : List D} {i : Int} : zcp (.tup ds) (.int i) M = (ixN ds.length i).bind fun j => ds[j]? := rfl
@[simp] theorem zso {ds : List D} {i : Int} : zcp (.lst ds) (.int i) M = (ixN ds.length i).bind fun j => ds[j]? := rfl
@[simp] theorem idx_cell {j : Nat} {i : Int} : zcp (.cell j) (.int i) M = (M[j]?).bind fun ds => (ixN ds.length i).bind fun j => ds[j]? := rfl
theorem ze4 {n i : Nat} (h : i < n) : ixN n (i : Int) = some i := by
  unfold ixN; rw [if_pos (Int.natCast_nonneg i), if_pos (by exact_mod_cast h)]; rfl
theorem zsm {n : Nat} (h : 0 < n) : ixN n (-1) = some (n - 1) := by
  unfold ixN
  rw [if_neg (by omega), if_pos (by omega)]
  congr 1; omega
end
theorem zoq {α : Type} {r : Res α} {d : α} {M : Mem} (h : okE r fun x M' => x = d /\ M' = M) : r = .ok d M := by
  obtain ⟨a, M', e, rfl, rfl⟩ := ztk.mp h
  exact e
theorem zba {r : Res D} {d : D} {M : Mem} (h : okE r fun x M' => x = d /\ M' = M) : r = .ok d M := by
  obtain ⟨a, M', e, rfl, rfl⟩ := ztk.mp h
  exact e
section
variable {P : Nat -> Option Df} (h : ziw P) {M : Mem}
include h
theorem zf8 (n : Nat) (t lo hi : Int) : za0 P (n + 1) 0 [.int t, .int lo, .int hi] M = .ok (.bl (decide (lo ≤ t) && decide (t ≤ hi))) M := by
  refine zba (za8 h.is_between rfl ?_)
  simp [zg8, zfk]
  by_cases h1 : lo ≤ t <;> simp [h1] <;> omega
end
theorem zhz {tg : Tgt} {w : Walk} {ge : GE} {ds : List D} {ρ0 : Env} {M : Mem} {kl : List D -> Mem -> Prop} (f : D -> D) (hz : ds.length ≤ sz) (hw : w M = some ds) (hs : ∀ d ∈ ds, ∃ ρ1, zc1 tg d ρ0 = some ρ1 /\ ge ρ1 M = .ok (f d) M) (hk : kl (ds.map f) M) :
    okE (zdu (zdv tg (zb8 ge) ρ0) w [] M) kl := by
  refine comp_map (fun i acc M' => M' = M /\ acc = (ds.take i).map f) hz (fun i acc M' h => by rw [h.1]; exact hw) ⟨rfl, rfl⟩ ?_ ?_
  · rintro i d acc M' hd _ ⟨rfl, rfl⟩
    obtain ⟨ρ1, e1, e2⟩ := hs d (List.mem_of_getElem? hd)
    refine ⟨ρ1, e1, ?_⟩
    rw [e2]
    refine ⟨rfl, ?_⟩
    have hi : i < ds.length := (List.getElem?_eq_some_iff.mp hd).1
    rw [List.take_succ, hd]
    simp
  · rintro acc M' _ ⟨rfl, rfl⟩
    simpa using hk
theorem zt5 {ds : List D} (h : ∀ d ∈ ds, d = .bl true) : ∃ bs, boolsOf ds = some bs /\ bs.all id = true := by
  induction ds with
  | nil => exact ⟨[], rfl, rfl⟩
  | cons d r ih =>
    obtain ⟨bs, e, q⟩ := ih fun d hd => h d (List.mem_cons_of_mem _ hd)
    obtain rfl := h d List.mem_cons_self
    exact ⟨true :: bs, by simp [boolsOf, e], by simpa using q⟩
theorem zl3 {tg : Tgt} {ge : GE} {w : Walk} {ds : List D} {ρ0 : Env} {M : Mem} (hz : ds.length ≤ sz) (hw : w M = some ds) (he : ∀ d ∈ ds, ∃ ρ1, zc1 tg d ρ0 = some ρ1 /\ ge ρ1 M = .ok (.bl true) M) :
    okE (zdu (zdv tg (zb8 ge) ρ0) w [] M) fun acc M' => acc.length ≤ sz /\ ∃ bs, boolsOf acc = some bs /\ ¬ false ∈ bs /\ M' = M := by
  refine zhz (fun _ => .bl true) hz hw he ?_
  obtain ⟨bs, q1, q2⟩ := zt5 (ds := ds.map fun _ => D.bl true) (by simp)
  refine ⟨by simpa using hz, bs, q1, fun z => ?_, rfl⟩
  have := List.all_eq_true.mp q2 false z
  cases this
abbrev nD (n : Nat) : D := .int (n : Int)
def zau (l : List Nat) : D := .tup (l.map nD)
inductive zbg where
  | turn (at_ : Nat) (tab : List Nat) (cost : Nat)
  | join (at_ other : Nat) (tab : List (List Nat)) (cost : Nat)
  | move (at_ other cost : Nat)
  | put (at_ word cost : Nat)
def zbg.d : zbg -> D
  | .turn a t c => .tup [.str "turn", nD a, zau t, nD c]
  | .join a o t c => .tup [.str "join", nD a, nD o, .tup (t.map zau), nD c]
  | .move a o c => .tup [.str "move", nD a, nD o, nD c]
  | .put a w c => .tup [.str "put", nD a, nD w, nD c]
def zbg.cost : zbg -> Nat
  | .turn _ _ c => c
  | .join _ _ _ c => c
  | .move _ _ c => c
  | .put _ _ c => c
structure zbc where
  words : Nat
  places : Nat
  deeds : List zbg
def zbc.d (m : zbc) : D := .tup [nD m.words, nD m.places, .tup (m.deeds.map zbg.d)]
def zii (w : Nat) (t : List Nat) : Prop := t.length = w /\ ∀ x ∈ t, x < w
def zhb (c : Nat) : Prop := 1 ≤ c /\ c ≤ 3
def zcf (w p : Nat) : zbg -> Prop
  | .turn a t c => a < p /\ zii w t /\ zhb c
  | .join a o t c => a < p /\ o < p /\ (t.length = w /\ ∀ x ∈ t, zii w x) /\ zhb c
  | .move a o c => a < p /\ o < p /\ zhb c
  | .put a x c => a < p /\ x < w /\ zhb c
structure zb4 (m : zbc) : Prop where
  w2 : 2 ≤ m.words
  w4 : m.words ≤ 4
  p1 : 1 ≤ m.places
  p2 : m.places ≤ 2
  d1 : 1 ≤ m.deeds.length
  d6 : m.deeds.length ≤ 6
  ok : ∀ d ∈ m.deeds, zcf m.words m.places d
theorem zas {n : Nat} (h : n ≤ 100000) : n ≤ sz := Nat.le_trans h (by decide)
section
variable {P : Nat -> Option Df} (h : ziw P) {M : Mem}
include h
theorem zr8 (n : Nat) {w t : Nat} (ht : t < w) : za0 P (n + 2) 1 [nD w, nD t] M = .ok (.bl true) M := by
  refine zba (za8 h.is_word rfl ?_)
  simp [zja, zf8 h]
  omega
theorem zhh (n : Nat) {w t : Nat} (ht : t < w) : za0 P (n + 2) 2 [nD w, nD t] M = .ok (.bl true) M := by
  refine zba (za8 h.is_place rfl ?_)
  simp [zie, zf8 h]
  omega
theorem zjx (n : Nat) {c : Nat} (hc : zhb c) : za0 P (n + 2) 3 [nD c] M = .ok (.bl true) M := by
  unfold zhb at hc
  refine zba (za8 h.is_cost rfl ?_)
  simp [zjf, zf8 h]
  omega
theorem zlr (n : Nat) {w : Nat} {ds : List D} (ht : ds.length = w) : za0 P (n + 1) 4 [nD w, .tup ds] M = .ok (.bl true) M := by
  refine zba (za8 h.is_tuple_of rfl ?_)
  simp [zfp, zfk, ht]
theorem zpu (n : Nat) {w : Nat} {t : List Nat} (hw : w ≤ 4) (ht : zii w t) : za0 P (n + 3) 5 [nD w, zau t] M = .ok (.bl true) M := by
  refine zba (za8 h.is_table rfl ?_)
  have e : za0 P (n + 2) 4 [nD w, zau t] M = .ok (.bl true) M := zlr h (n + 1) (by simpa using ht.1)
  simp [zid, e]
  refine ⟨rfl, zl3 (ds := t.map nD) (zas (by simp [ht.1]; omega)) rfl fun d hd => ?_⟩
  obtain ⟨x, hx, rfl⟩ := List.mem_map.mp hd
  refine ⟨_, rfl, zba ?_⟩
  simp [zr8 h n (ht.2 x hx)]
theorem zup (n : Nat) {w : Nat} {t : List (List Nat)} (hw : w ≤ 4) (ht : t.length = w /\ ∀ x ∈ t, zii w x) : za0 P (n + 4) 6 [nD w, .tup (t.map zau)] M = .ok (.bl true) M := by
  refine zba (za8 h.is_double_table rfl ?_)
  have e : za0 P (n + 3) 4 [nD w, .tup (t.map zau)] M = .ok (.bl true) M := zlr h (n + 2) (by simpa using ht.1)
  simp [ze0, e]
  refine ⟨rfl, zl3 (ds := t.map zau) (zas (by simp [ht.1]; omega)) rfl fun d hd => ?_⟩
  obtain ⟨x, hx, rfl⟩ := List.mem_map.mp hd
  refine ⟨_, rfl, zba ?_⟩
  simp [zpu h n hw (ht.2 x hx)]
theorem zza (n : Nat) {w p a c : Nat} {t : List Nat} (hw : w ≤ 4) (hd : zcf w p (.turn a t c)) : za0 P (n + 4) 7 [nD w, nD p, .tup [nD a, zau t, nD c]] M = .ok (.bl true) M := by
  obtain ⟨h1, h2, h3⟩ := hd
  refine zba (za8 h.is_turn rfl ?_)
  simp [zjb, zct, zhh h (n + 1) h1, zpu h n hw h2, zjx h (n + 1) h3]
theorem zzg (n : Nat) {w p a o c : Nat} {t : List (List Nat)} (hw : w ≤ 4) (hd : zcf w p (.join a o t c)) : za0 P (n + 5) 8 [nD w, nD p, .tup [nD a, nD o, .tup (t.map zau), nD c]] M = .ok (.bl true) M := by
  obtain ⟨h1, h2, h3, h4⟩ := hd
  refine zba (za8 h.is_join rfl ?_)
  simp [zje, zct, zhh h (n + 2) h1, zhh h (n + 2) h2, zup h n hw h3, zjx h (n + 2) h4]
theorem zze (n : Nat) {w p a o c : Nat} (hd : zcf w p (.move a o c)) : za0 P (n + 3) 9 [nD w, nD p, .tup [nD a, nD o, nD c]] M = .ok (.bl true) M := by
  obtain ⟨h1, h2, h3⟩ := hd
  refine zba (za8 h.is_move rfl ?_)
  simp [zjd, zct, zhh h n h1, zhh h n h2, zjx h n h3]
theorem zzc (n : Nat) {w p a x c : Nat} (hd : zcf w p (.put a x c)) : za0 P (n + 3) 10 [nD w, nD p, .tup [nD a, nD x, nD c]] M = .ok (.bl true) M := by
  obtain ⟨h1, h2, h3⟩ := hd
  refine zba (za8 h.is_put rfl ?_)
  simp [zke, zct, zhh h n h1, zr8 h n h2, zjx h n h3]
end
theorem lkS1 : zd0.lookup (Str.ofString "turn") = some 7 := by decide +kernel
theorem lkS2 : zd0.lookup (Str.ofString "join") = some 8 := by decide +kernel
theorem lkS3 : zd0.lookup (Str.ofString "move") = some 9 := by decide +kernel
theorem lkS4 : zd0.lookup (Str.ofString "put") = some 10 := by decide +kernel
section
variable {P : Nat -> Option Df} (h : ziw P) {M : Mem}
include h
theorem zzj (n : Nat) {w p : Nat} {d : zbg} (hw : w ≤ 4) (hd : zcf w p d) : za0 P (n + 6) 11 [nD w, nD p, d.d] M = .ok (.bl true) M := by
  refine zba (za8 h.is_deed rfl ?_)
  cases d with
  | turn a t c => simp [zf4, zbg.d, zfk, ixN, lkS1, zb7, sIx, zcv, cut, zza h (n + 1) hw hd]; exact ⟨7, by unfold zd0; simp⟩
  | join a o t c => simp [zf4, zbg.d, zfk, ixN, lkS2, zb7, sIx, zcv, cut, zzg h n hw hd]; exact ⟨8, by unfold zd0; simp⟩
  | move a o c => simp [zf4, zbg.d, zfk, ixN, lkS3, zb7, sIx, zcv, cut, zze h (n + 2) hd]; exact ⟨9, by unfold zd0; simp⟩
  | put a x c => simp [zf4, zbg.d, zfk, ixN, lkS4, zb7, sIx, zcv, cut, zzc h (n + 2) hd]; exact ⟨10, by unfold zd0; simp⟩
theorem zzf (n : Nat) {m : zbc} (hm : zb4 m) : za0 P (n + 7) 12 [m.d] M = .ok (.bl true) M := by
  refine zba (za8 h.is_machine rfl ?_)
  have e : za0 P (n + 6) 4 [.int 3, .tup [nD m.words, nD m.places, .tup (m.deeds.map zbg.d)]] M = .ok (.bl true) M := zlr h (n + 5) (w := 3) rfl
  have l1 := hm.d1
  have l6 := hm.d6
  have b1 : (decide ((2 : Int) ≤ (m.words : Int)) && decide ((m.words : Int) ≤ 4)) = true := by have := hm.w2; have := hm.w4; simp; omega
  have b2 : (decide ((1 : Int) ≤ (m.places : Int)) && decide ((m.places : Int) ≤ 2)) = true := by have := hm.p1; have := hm.p2; simp; omega
  simp only [Bool.and_eq_true, decide_eq_true_eq] at b1 b2
  simp [zg7, zbc.d, e, zct, zf8 h, b1, b2, zfk]
  refine ⟨by omega, by omega, rfl, zl3 (ds := m.deeds.map zbg.d) (zas (by simp; omega)) rfl fun d hd => ?_⟩
  obtain ⟨x, hx, rfl⟩ := List.mem_map.mp hd
  refine ⟨_, rfl, zba ?_⟩
  simp [zzj h n hm.w4 (hm.ok x hx)]
end
end LD
namespace LD
open PySem
structure Sub (M M' : Mem) : Prop where
  len : M.length ≤ M'.length
  at' : ∀ k, k < M.length -> M'[k]? = M[k]?
theorem Sub.refl {M : Mem} : Sub M M := ⟨Nat.le_refl _, fun _ _ => rfl⟩
theorem Sub.trans {M M1 M2 : Mem} (a : Sub M M1) (b : Sub M1 M2) : Sub M M2 := ⟨Nat.le_trans a.len b.len, fun k hk => (b.at' k (Nat.lt_of_lt_of_le hk a.len)).trans (a.at' k hk)⟩
theorem Sub.app {M X : Mem} : Sub M (M ++ X) := ⟨by simp, fun k hk => List.getElem?_append_left hk⟩
theorem Sub.get {k : Nat} {M M' : Mem} {ds : List D} (h : Sub M M') (e : M[k]? = some ds) : M'[k]? = some ds := by rw [h.at' k (List.getElem?_eq_some_iff.mp e).1]; exact e
theorem Sub.setq {M M' : Mem} {q : Nat} {ds : List D} (h : Sub M M') (hq : M.length ≤ q) : Sub M (M'.set q ds) := ⟨by simpa using h.len, fun k hk => by rw [List.getElem?_set_ne (by omega)]; exact h.at' k hk⟩
theorem zt1 {tg : Tgt} {w : Walk} {ge : GE} {ds : List D} {ρ0 : Env} {M : Mem} {acc0 : List D} {kl : List D -> Mem -> Prop} (f : D -> D) (hz : acc0.length + ds.length ≤ sz) (hw : w M = some ds) (hs : ∀ d ∈ ds, ∃ ρ1, zc1 tg d ρ0 = some ρ1 /\ ge ρ1 M = .ok (f d) M) (hk : kl (acc0 ++ ds.map f) M) :
    okE (zdu (zdv tg (zb8 ge) ρ0) w acc0 M) kl := by
  refine zhe (ds := ds) (fun i acc M' => M' = M /\ acc = acc0 ++ (ds.take i).map f) (fun i acc M' h => by rw [h.1]; exact hw) ⟨rfl, by simp⟩ ?_ ?_
  · rintro i d acc M' hd ⟨rfl, rfl⟩
    obtain ⟨ρ1, e1, e2⟩ := hs d (List.mem_of_getElem? hd)
    have hi : i < ds.length := (List.getElem?_eq_some_iff.mp hd).1
    simp only [zdv, zbt, zis, e1, b_fin]
    refine ⟨ρ1, rfl, ?_⟩
    rw [e2]
    refine ⟨by simp; omega, rfl, ?_⟩
    rw [List.take_succ, hd]
    simp
  · rintro acc M' ⟨rfl, rfl⟩
    simpa using hk
theorem zn3 {α β : Type} (f : α -> List β) (n : Nat) : ∀ (ds : List α), (∀ d ∈ ds, (f d).length ≤ n) -> (ds.flatMap f).length ≤ ds.length * n
  | [], _ => by simp
  | d :: r, h => by
    have h1 := h d List.mem_cons_self
    have h2 := zn3 f n r fun d hd => h d (List.mem_cons_of_mem _ hd)
    simp only [List.flatMap_cons, List.length_append, List.length_cons, Nat.succ_mul]
    omega
theorem zt2 {t u : Tgt} {w : Walk} {gw2 : GW} {ge : GE} {ds : List D} {ρ0 : Env} {M : Mem} {kl : List D -> Mem -> Prop} (its : D -> List D) (f : D -> D -> D) (n : Nat) (hn : ∀ d ∈ ds, (its d).length ≤ n) (hz : ds.length * n ≤ sz) (hw : w M = some ds)
    (hs : ∀ d ∈ ds, ∃ ρ1, zc1 t d ρ0 = some ρ1 /\ ∃ w2, gw2 ρ1 M = .ok w2 M /\ w2 M = some (its d) /\ ∀ e ∈ its d, ∃ ρ2, zc1 u e ρ1 = some ρ2 /\ ge ρ2 M = .ok (f d e) M) (hk : kl (ds.flatMap fun d => (its d).map (f d)) M) :
    okE (zdu (zdv t (gGen u gw2 (zb8 ge)) ρ0) w [] M) kl := by
  refine zhe (ds := ds) (fun i acc M' => M' = M /\ acc = (ds.take i).flatMap fun d => (its d).map (f d)) (fun i acc M' h => by rw [h.1]; exact hw) ⟨rfl, by simp⟩ ?_ ?_
  · rintro i d acc M' hd ⟨rfl, rfl⟩
    obtain ⟨ρ1, e1, w2, e2, e3, e4⟩ := hs d (List.mem_of_getElem? hd)
    have hi : i < ds.length := (List.getElem?_eq_some_iff.mp hd).1
    simp only [zdv, zbt, zis, e1, gGen]
    refine ⟨ρ1, rfl, ?_⟩
    rw [e2]
    show okE (zdu (zdv u (zb8 ge) ρ1) w2 _ M') _
    have e5 : (ds.take (i + 1)).flatMap (fun d => (its d).map (f d)) = (ds.take i).flatMap (fun d => (its d).map (f d)) ++ (its d).map (f d) := by
      rw [List.take_succ, hd]; simp
    have l1 := zn3 (fun d => (its d).map (f d)) n (ds.take (i + 1)) (fun d hd => by simpa using hn d (List.mem_of_mem_take hd))
    rw [e5] at l1
    simp only [List.length_append, List.length_map, List.length_take] at l1
    refine zt1 (f d) ?_ e3 e4 ⟨rfl, e5.symm⟩
    have : (min (i + 1) ds.length) * n ≤ ds.length * n := Nat.mul_le_mul_right _ (Nat.min_le_right _ _)
    omega
  · rintro acc M' ⟨rfl, rfl⟩
    simpa using hk
def ext1 (w : Nat) (l : List (List Nat)) : List (List Nat) := l.flatMap fun s => (List.range w).map fun x => s ++ [x]
def zd5 (w : Nat) : Nat -> List (List Nat)
  | 0 => [[]]
  | p + 1 => ext1 w (zd5 w p)
def zcd (m : zbc) : List (List Nat) := zd5 m.words m.places
def zgg (m : zbc) (s : List Nat) : Prop := s.length = m.places /\ ∀ x ∈ s, x < m.words
theorem zrj {w p : Nat} : ∀ s ∈ zd5 w p, s.length = p /\ ∀ x ∈ s, x < w := by
  induction p with
  | zero => intro s hs; simp [zd5] at hs; subst hs; simp
  | succ p ih =>
    intro s hs
    simp only [zd5, ext1, List.mem_flatMap, List.mem_map, List.mem_range] at hs
    obtain ⟨t, ht, x, hx, rfl⟩ := hs
    obtain ⟨h1, h2⟩ := ih t ht
    refine ⟨by simp [h1], fun y hy => ?_⟩
    rcases List.mem_append.mp hy with z | z
    · exact h2 y z
    · simp at z; omega
theorem zn8 {m : zbc} : ∀ s ∈ zcd m, zgg m s := zrj
theorem zi8 {w : Nat} (hw : w ≤ 4) : ∀ p ≤ 2, (zd5 w p).length ≤ 4 ^ p
  | 0, _ => by simp [zd5]
  | p + 1, hp => by
    have := zi8 hw p (by omega)
    have l := zn3 (fun s : List Nat => (List.range w).map fun x => s ++ [x]) 4 (zd5 w p) (fun d hd => by simpa using hw)
    simp only [zd5, ext1]
    calc _ ≤ (zd5 w p).length * 4 := l
      _ ≤ 4 ^ p * 4 := Nat.mul_le_mul_right _ this
      _ = 4 ^ (p + 1) := by rw [Nat.pow_succ]
theorem zri {m : zbc} (hm : zb4 m) : (zcd m).length ≤ 16 := by
  have h := zi8 hm.w4 m.places hm.p2
  have h1 := hm.p1
  have h2 := hm.p2
  have : m.places = 1 \/ m.places = 2 := by omega
  rcases this with e | e <;> rw [e] at h <;> unfold zcd <;> rw [e] <;> omega
theorem zo0 {w : Nat} : ∀ (p : Nat) (s : List Nat), s.length = p -> (∀ x ∈ s, x < w) -> s ∈ zd5 w p
  | 0, s, hl, _ => by
    obtain rfl := List.length_eq_zero_iff.mp hl
    simp [zd5]
  | p + 1, s, hl, hx => by
    have ne : s ≠ [] := by intro e; subst e; cases hl
    have es := List.dropLast_concat_getLast ne
    show s ∈ ext1 w (zd5 w p)
    unfold ext1
    rw [List.mem_flatMap]
    refine ⟨s.dropLast, zo0 p _ (by simp [hl]) (fun x h => hx x (List.dropLast_subset _ h)), ?_⟩
    rw [List.mem_map]
    exact ⟨s.getLast ne, List.mem_range.mpr (hx _ (List.getLast_mem ne)), es⟩
theorem zyg {m : zbc} (hm : zb4 m) {s : List Nat} (h : zgg m s) : s ∈ zcd m := zo0 _ s h.1 h.2
def zer : zbg -> List Nat -> Nat
  | .turn a t _, s => t.getD (s.getD a 0) 0
  | .join a o t _, s => (t.getD (s.getD a 0) []).getD (s.getD o 0) 0
  | .move _ o _, s => s.getD o 0
  | .put _ x _, _ => x
def zbg.at' : zbg -> Nat
  | .turn a _ _ => a
  | .join a _ _ _ => a
  | .move a _ _ => a
  | .put a _ _ => a
def ze6 (d : zbg) (s : List Nat) : List Nat := s.take d.at' ++ [zer d s] ++ s.drop (d.at' + 1)
theorem getD_mem {α : Type} {l : List α} {i : Nat} {d : α} (h : i < l.length) : l.getD i d ∈ l := by
  rw [List.getD_eq_getElem?_getD, List.getElem?_eq_getElem h]; exact List.getElem_mem h
theorem zmu {m : zbc} {d : zbg} {s : List Nat} (hd : zcf m.words m.places d) (hs : zgg m s) : zer d s < m.words := by
  obtain ⟨hl, hx⟩ := hs
  cases d with
  | turn a t c =>
    obtain ⟨h1, h2, h3⟩ := hd
    have := hx _ (getD_mem (d := 0) (show a < s.length by omega))
    exact h2.2 _ (getD_mem (by rw [h2.1]; exact this))
  | join a o t c =>
    obtain ⟨h1, h2, h3, h4⟩ := hd
    have a1 := hx _ (getD_mem (d := 0) (show a < s.length by omega))
    have a2 := hx _ (getD_mem (d := 0) (show o < s.length by omega))
    have a3 := h3.2 _ (getD_mem (d := []) (show s.getD a 0 < t.length by rw [h3.1]; exact a1))
    exact a3.2 _ (getD_mem (by rw [a3.1]; exact a2))
  | move a o c => exact hx _ (getD_mem (by obtain ⟨h1, h2, h3⟩ := hd; omega))
  | put a x c => exact hd.2.1
theorem zpo {w p : Nat} {d : zbg} (hd : zcf w p d) : d.at' < p := by cases d <;> exact hd.1
theorem zv7 {m : zbc} {d : zbg} {s : List Nat} (hd : zcf m.words m.places d) (hs : zgg m s) : zgg m (ze6 d s) := by
  have h1 := zpo hd
  have h2 := zmu hd hs
  obtain ⟨hl, hx⟩ := hs
  refine ⟨by simp [ze6]; omega, fun x hm => ?_⟩
  simp only [ze6, List.mem_append, List.mem_singleton] at hm
  rcases hm with (z | z) | z
  · exact hx x (List.mem_of_mem_take z)
  · omega
  · exact hx x (List.mem_of_mem_drop z)
def zb3 (m : zbc) (r : List Nat) : Prop := r.length ≤ 40 /\ ∀ i ∈ r, i < m.deeds.length
def zhf (m : zbc) (i : Nat) : zbg := m.deeds.getD i (.put 0 0 1)
def zcg (m : zbc) : List Nat -> List Nat -> List Nat
  | [], s => s
  | i :: r, s => zcg m r (ze6 (zhf m i) s)
def zeo (m : zbc) : List Nat -> List Nat -> List (List Nat)
  | [], s => [s]
  | i :: r, s => s :: zeo m r (ze6 (zhf m i) s)
theorem zju {m : zbc} (hm : zb4 m) {i : Nat} (hi : i < m.deeds.length) : zcf m.words m.places (zhf m i) := hm.ok _ (getD_mem hi)
theorem zk8 {m : zbc} (hm : zb4 m) : ∀ {r : List Nat} {s : List Nat}, (∀ i ∈ r, i < m.deeds.length) -> zgg m s -> zgg m (zcg m r s)
  | [], s, _, h => h
  | i :: r, s, hr, h => zk8 (r := r) hm (fun j hj => hr j (List.mem_cons_of_mem _ hj)) (zv7 (zju hm (hr i List.mem_cons_self)) h)
theorem zhk {m : zbc} : ∀ (a b s : List Nat), zcg m (a ++ b) s = zcg m b (zcg m a s)
  | [], b, s => rfl
  | i :: a, b, s => zhk a b _
theorem zoj {m : zbc} : ∀ (r : List Nat) (i : Nat) (s : List Nat), zeo m (r ++ [i]) s = zeo m r s ++ [ze6 (zhf m i) (zcg m r s)]
  | [], i, s => rfl
  | j :: r, i, s => by simp [zeo, zcg, zoj r i]
theorem zlv {m : zbc} : ∀ (r s : List Nat), (zeo m r s).length = r.length + 1
  | [], s => rfl
  | i :: r, s => by simp [zeo, zlv r]
theorem zok {m : zbc} : ∀ (r s : List Nat), (zeo m r s)[r.length]? = some (zcg m r s)
  | [], s => rfl
  | i :: r, s => by simp [zeo, zcg, zok r]
theorem zlk {m : zbc} (r s : List Nat) : ((ixN (zeo m r s).length (-1)).bind fun j => Option.map zau (zeo m r s)[j]?) = some (zau (zcg m r s)) := by
  rw [zlv, zsm (by omega)]
  show Option.map zau (zeo m r s)[r.length + 1 - 1]? = _
  rw [Nat.add_sub_cancel, zok]
  rfl
theorem zww {s : List Nat} {i : Nat} (hi : i < s.length) : (ixN (s.map nD).length (i : Int)).bind (fun j => (s.map nD)[j]?) = some (nD (s.getD i 0)) := by
  rw [ze4 (by simpa using hi)]
  simp [List.getD_eq_getElem?_getD, hi]
def zep (r : List Nat) : D := .lst (r.map nD)
theorem zxz {m : zbc} {i : Nat} (hi : i < m.deeds.length) : ((ixN (m.deeds.map zbg.d).length (i : Int)).bind fun j => (m.deeds.map zbg.d)[j]?) = some (zhf m i).d := by
  rw [ze4 (by simpa using hi)]
  simp [zhf, List.getD_eq_getElem?_getD, hi]
theorem md2 {m : zbc} {M : Mem} : zcp m.d (.int 2) M = some (.tup (m.deeds.map zbg.d)) := rfl
theorem zq2 {m : zbc} {M : Mem} {i : Nat} (hi : i < m.deeds.length) : zcp (.tup (m.deeds.map zbg.d)) (nD i) M = some (zhf m i).d := zxz hi
theorem zv4 {d : zbg} {M : Mem} : zcp d.d (.int (-1)) M = some (nD d.cost) := by cases d <;> rfl
theorem zg4 {s : List Nat} {M : Mem} {i : Nat} (hi : i < s.length) : zcp (zau s) (nD i) M = some (nD (s.getD i 0)) := zww hi
theorem zv3 {t : List (List Nat)} {M : Mem} {i : Nat} (hi : i < t.length) : zcp (.tup (t.map zau)) (nD i) M = some (zau (t.getD i [])) := by
  show (ixN (t.map zau).length (i : Int)).bind (fun j => (t.map zau)[j]?) = _
  rw [ze4 (by simpa using hi)]
  simp [List.getD_eq_getElem?_getD, hi]
def zbk (M : Mem) (x : D) (r : List Nat) : Prop := x = .lst (r.map nD) \/ ∃ q, x = .cell q /\ M[q]? = some (r.map nD)
theorem zbk.l {M : Mem} {r : List Nat} : zbk M (.lst (r.map nD)) r := .inl rfl
theorem zbk.c {M : Mem} {q : Nat} {r : List Nat} (h : M[q]? = some (r.map nD)) : zbk M (.cell q) r := .inr ⟨q, rfl, h⟩
theorem zbk.sub {M M' : Mem} {x : D} {r : List Nat} (h : zbk M x r) (s : Sub M M') : zbk M' x r := h.elim .inl fun ⟨q, e, g⟩ => .inr ⟨q, e, s.get g⟩
theorem zbk.seq {M : Mem} {x : D} {r : List Nat} (h : zbk M x r) : zcm M x = some (r.map nD) := by
  rcases h with rfl | ⟨q, rfl, e⟩
  · rfl
  · exact e
theorem zbk.rd {M : Mem} {x : D} {r : List Nat} (h : zbk M x r) : rdD M x = some (r.map nD) := by
  rcases h with rfl | ⟨q, rfl, e⟩
  · rfl
  · exact e
theorem zbk.is {M : Mem} {x : D} {r : List Nat} (h : zbk M x r) : zen x = true /\ zgj x = true /\ zfk .list x = some true := by
  rcases h with rfl | ⟨q, rfl, e⟩ <;> exact ⟨rfl, rfl, rfl⟩
theorem zbk.len {M : Mem} {x : D} {r : List Nat} {k : D -> Mem -> Prop} (h : zbk M x r) : okE (zex .len [x] M) k ↔ k (.int r.length) M := by
  rcases h with rfl | ⟨q, rfl, e⟩
  · show k (.int (r.map nD).length) M ↔ _
    simp
  · show okE (match M[q]? with | some xs => _ | none => _) k ↔ _
    rw [e]; simp
theorem zbk.list {M : Mem} {x : D} {r : List Nat} {m : Bool} {k : D -> Mem -> Prop} (h : zbk M x r) : okE (zex (.list m) [x] M) k ↔ okE (zbn m (r.map nD) M) k := by
  rcases h with rfl | ⟨q, rfl, e⟩
  · exact Iff.rfl
  · show okE (match M[q]? with | some xs => _ | none => _) k ↔ _
    rw [e]
theorem zbk.non {M : Mem} {x : D} {r : List Nat} (h : zbk M x r) : zj5 x = false := by
  rcases h with rfl | ⟨q, rfl, e⟩ <;> rfl
theorem zbk.vw {M : Mem} {x : D} {r : List Nat} (h : zbk M x r) : view M x = .lst (r.map nD) := by
  rcases h with rfl | ⟨q, rfl, e⟩
  · rfl
  · simp [view, e]
section
variable {P : Nat -> Option Df} (h : ziw P) {M : Mem}
include h
theorem zls (n : Nat) {m : zbc} (hm : zb4 m) : za0 P (n + 8) 13 [m.d] M = .ok .non M := by
  refine zba (za8 h.need_machine rfl ?_)
  simp [zgd, zzf h n hm]
theorem zr9 (h15 : P 15 = some ⟨1, 6, zdc⟩) (n : Nat) {m : zbc} (hm : zb4 m) : za0 P (n + 9) 15 [m.d] M = .ok (.lst ((zcd m).map zau)) M := by
  refine zba (za8 h15 rfl ?_)
  have w4 := hm.w4
  have p2 := hm.p2
  simp [zdc, zls h n hm]
  simp [zbc.d, zct]
  refine ⟨by decide, by omega, ?_⟩
  refine zeb (ds := (List.range m.places).map fun (k : Nat) => D.int (k : Int)) (fun i ρ M' => M' = M /\ ∃ a, ρ = [some m.d, some (nD m.words), some (nD m.places), some (.tup (m.deeds.map zbg.d)), some (.lst ((zd5 m.words i).map zau)), a]) (fun _ _ _ _ => rfl) ⟨rfl, none, by simp [zbc.d, zd5, zau]⟩ ?_ ?_
  · rintro i d ρ M' hd ⟨rfl, a, rfl⟩
    have hi : i < m.places := by
      have := (List.getElem?_eq_some_iff.mp hd).1
      simpa using this
    refine ⟨_, rfl, ?_⟩
    simp [zen]
    refine zt2 (ds := (zd5 m.words i).map zau) (fun _ => (List.range m.words).map fun (k : Nat) => D.int (k : Int)) (fun d e => match d, e with | .tup x, e => .tup (x ++ [e]) | _, _ => .non) 4 (by simpa using fun _ _ => w4) ?_ rfl ?_ ?_
    · have := zi8 w4 i (by omega)
      have : (4 : Nat) ^ i ≤ 4 ^ 2 := Nat.pow_le_pow_right (by decide) (by omega)
      simp only [List.length_map]
      exact zas (by omega)
    · intro d hd
      obtain ⟨s, hs, rfl⟩ := List.mem_map.mp hd
      have ⟨l1, _⟩ := zrj s hs
      refine ⟨_, rfl, (fun _ => some ((List.range m.words).map fun (k : Nat) => D.int (k : Int))), zoq ?_, rfl, fun e he => ⟨_, rfl, zba ?_⟩⟩
      · simp
        omega
      · simp [zau, sz]
        omega
    · have e0 : ((zd5 m.words i).map zau).flatMap (fun d => ((List.range m.words).map fun (k : Nat) => D.int (k : Int)).map (fun e => match d, e with | .tup x, e => D.tup (x ++ [e]) | _, _ => .non)) = (zd5 m.words (i + 1)).map zau := by
        simp only [zd5, ext1, List.flatMap_map, List.map_flatMap, List.map_map]
        congr 1
        funext s
        simp [zau, Function.comp_def]
      rw [e0]
      refine ⟨?_, rfl, rfl⟩
      have := zi8 w4 (i + 1) (by omega)
      have : (4 : Nat) ^ (i + 1) ≤ 4 ^ 2 := Nat.pow_le_pow_right (by decide) (by omega)
      simp only [List.length_map]
      exact zas (by omega)
  · rintro ρ M' ⟨rfl, a, rfl⟩
    simp [zcd]
theorem zzi (n : Nat) {m : zbc} {i : Nat} (hi : i < m.deeds.length) : za0 P (n + 2) 16 [m.d, nD i] M = .ok (.bl true) M := by
  refine zba (za8 h.is_deed_number rfl ?_)
  simp [zfm, zbc.d, ixN, zf8 h]
  omega
theorem zsy (n : Nat) {m : zbc} {x : D} {r : List Nat} (hx : zbk M x r) (hr : ∀ i ∈ r, i < m.deeds.length) : za0 P (n + 3) 17 [m.d, x] M = .ok .non M := by
  refine zba (za8 h.need_numbers rfl ?_)
  obtain ⟨i1, i2, i3⟩ := hx.is
  simp [zgc, i1, i2, i3]
  refine zeb (ds := zdw 0 (r.map nD)) (fun i ρ M' => M' = M /\ ∃ a b, ρ = [some m.d, some x, a, b]) (fun _ _ _ e => by rw [e.1, hx.seq]; rfl) ⟨rfl, none, none, rfl⟩ ?_ ?_
  · rintro i d ρ M' hd ⟨rfl, a, b, rfl⟩
    rw [zf1] at hd
    rw [List.getElem?_map] at hd
    cases e : r[i]? with
    | none => rw [e] at hd; cases hd
    | some x =>
      rw [e] at hd
      simp at hd
      subst hd
      refine ⟨_, rfl, ?_⟩
      simp [zzi h n (hr x (List.mem_of_getElem? e))]
  · rintro ρ M' ⟨rfl, a, b, rfl⟩
    simp
theorem zkk (n : Nat) {m : zbc} {x : D} {r : List Nat} (hx : zbk M x r) (hm : zb4 m) (hr : zb3 m r) : za0 P (n + 9) 18 [m.d, x] M = .ok .non M := by
  have e := zsy h (n + 5) (m := m) hx hr.2
  refine zba (za8 h.need_row rfl ?_)
  simp [zic, zls h n hm, e]
  rw [hx.len]
  have := hr.1
  simp
  omega
theorem zuj (n : Nat) {m : zbc} {a c : Nat} {t s : List Nat} (hd : zcf m.words m.places (.turn a t c)) (hs : zgg m s) : za0 P (n + 1) 20 [(zbg.turn a t c).d, zau s] M = .ok (nD (zer (.turn a t c) s)) M := by
  obtain ⟨h1, h2, h3⟩ := hd
  have a1 : a < s.length := by rw [hs.1]; exact h1
  have a2 : s.getD a 0 < t.length := by rw [h2.1]; exact hs.2 _ (getD_mem a1)
  refine zba (za8 h.turned rfl ?_)
  simp [-zgu, -List.getD_eq_getElem?_getD, zj9, zbg.d, zct, zg4 a1, zg4 a2, zer]
theorem zun (n : Nat) {m : zbc} {a o c : Nat} {t : List (List Nat)} {s : List Nat} (hd : zcf m.words m.places (.join a o t c)) (hs : zgg m s) : za0 P (n + 1) 21 [(zbg.join a o t c).d, zau s] M = .ok (nD (zer (.join a o t c) s)) M := by
  obtain ⟨h1, h2, h3, h4⟩ := hd
  have a1 : a < s.length := by rw [hs.1]; exact h1
  have a2 : o < s.length := by rw [hs.1]; exact h2
  have a3 : s.getD a 0 < t.length := by rw [h3.1]; exact hs.2 _ (getD_mem a1)
  have a4 : s.getD o 0 < (t.getD (s.getD a 0) []).length := by rw [(h3.2 _ (getD_mem a3)).1]; exact hs.2 _ (getD_mem a2)
  refine zba (za8 h.joined rfl ?_)
  simp [-zgu, -List.getD_eq_getElem?_getD, zkc, zbg.d, zct, zg4 a1, zg4 a2, zv3 a3, zg4 a4, zer]
theorem zwz (n : Nat) {m : zbc} {a o c : Nat} {s : List Nat} (hd : zcf m.words m.places (.move a o c)) (hs : zgg m s) : za0 P (n + 1) 22 [(zbg.move a o c).d, zau s] M = .ok (nD (zer (.move a o c) s)) M := by
  obtain ⟨h1, h2, h3⟩ := hd
  have a2 : o < s.length := by rw [hs.1]; exact h2
  refine zba (za8 h.moved rfl ?_)
  simp [-zgu, -List.getD_eq_getElem?_getD, zld, zbg.d, zct, zg4 a2, zer]
theorem zwy (n : Nat) {a x c : Nat} {s : List Nat} : za0 P (n + 1) 23 [(zbg.put a x c).d, zau s] M = .ok (nD (zer (.put a x c) s)) M := by
  refine zba (za8 h.put_in rfl ?_)
  simp [zka, zbg.d, zct, zer]
end
theorem lkN1 : zdt.lookup (Str.ofString "turn") = some 20 := by decide +kernel
theorem lkN2 : zdt.lookup (Str.ofString "join") = some 21 := by decide +kernel
theorem lkN3 : zdt.lookup (Str.ofString "move") = some 22 := by decide +kernel
theorem lkN4 : zdt.lookup (Str.ofString "put") = some 23 := by decide +kernel
theorem slc_st {s : List Nat} {M : Mem} {k : D -> Mem -> Prop} {a : Nat} (ha : a ≤ s.length) : okE (zb7 false (zau s) .non (.int a) M) k ↔ k (zau (s.take a)) M := by
  simp only [zb7, zau, sIx, cut]
  rw [if_neg (by omega)]
  simp
  rw [Nat.min_eq_left (by simpa using ha)]
theorem zzl {s : List Nat} {M : Mem} {k : D -> Mem -> Prop} {a : Nat} (ha : a ≤ s.length) : okE (zb7 false (zau s) (.int a) .non M) k ↔ k (zau (s.drop a)) M := by
  simp only [zb7, zau, sIx, cut]
  rw [if_neg (by omega)]
  simp
  rw [Nat.min_eq_left (by simpa using ha), List.take_of_length_le (by simp)]
section
variable {P : Nat -> Option Df} (h : ziw P) {M : Mem}
include h
theorem zzh (n : Nat) {m : zbc} {d : zbg} {s : List Nat} (hm : zb4 m) (hd : zcf m.words m.places d) (hs : zgg m s) : za0 P (n + 2) 24 [d.d, zau s] M = .ok (zau (ze6 d s)) M := by
  have a0 := zpo hd
  have l0 := hs.1
  have p2 := hm.p2
  have key : ∀ f, za0 P (n + 1) f [d.d, zau s] M = .ok (nD (zer d s)) M -> zcp d.d (.int 1) M = some (nD d.at') -> (∀ k : D -> Mem -> Prop, (∃ y, zcp d.d (.int 0) M = some (.str y) /\ zdt.lookup y = some f) ) -> za0 P (n + 2) 24 [d.d, zau s] M = .ok (zau (ze6 d s)) M := fun f e1 e2 e3 => by
    obtain ⟨y, e3, e4⟩ := e3 fun _ _ => True
    refine zba (za8 h.done rfl ?_)
    simp only [zm7, zby, zda, e_dget, zia, zcj, e_c, zch, s_ret_, zib, ztx, e_tup, zcw, zdp, z0j]
    simp [-zgu, e1, e2, e3, e4, zcv]
    rw [slc_st (by omega), e1]
    have e5 : (d.at' : Int) + 1 = ((d.at' + 1 : Nat) : Int) := by omega
    rw [e5]
    simp only [ok_ok, zau, zwk]
    refine ⟨by decide, ?_, ?_⟩
    · simp
      exact zas (by omega)
    · rw [show D.tup (s.map nD) = zau s from rfl, zzl (by omega)]
      simp only [zau, zwk]
      refine ⟨?_, ?_, trivial⟩
      · simp
        exact zas (by omega)
      · simp [ze6]
  cases d with
  | turn a t c => exact key 20 (zuj h n hd hs) rfl fun _ => ⟨_, rfl, lkN1⟩
  | join a o t c => exact key 21 (zun h n hd hs) rfl fun _ => ⟨_, rfl, lkN2⟩
  | move a o c => exact key 22 (zwz h n hd hs) rfl fun _ => ⟨_, rfl, lkN3⟩
  | put a x c => exact key 23 (zwy h n) rfl fun _ => ⟨_, rfl, lkN4⟩
theorem zrq (n : Nat) {m : zbc} {x : D} {r s : List Nat} (hx : zbk M x r) (hm : zb4 m) (hrl : r.length ≤ 100000) (hr : ∀ i ∈ r, i < m.deeds.length) (hs : zgg m s) : za0 P (n + 3) 25 [m.d, x, zau s] M = .ok (.cell M.length) (M ++ [(zeo m r s).map zau]) := by
  refine zba (za8 h.all_standing rfl ?_)
  simp [zge, hx.is]
  refine ⟨by decide, ?_⟩
  refine zeb (ds := r.map nD) (fun i ρ M' => M' = M ++ [(zeo m (r.take i) s).map zau] /\ ∃ a, ρ = [some m.d, some x, some (zau s), some (.cell M.length), a]) (fun _ _ _ e => by rw [e.1]; exact (hx.sub Sub.app).seq) ⟨by simp [zeo], none, rfl⟩ ?_ ?_
  · rintro i d ρ M' hd ⟨rfl, a, rfl⟩
    rw [List.getElem?_map] at hd
    cases e : r[i]? with
    | none => rw [e] at hd; cases hd
    | some x =>
      rw [e] at hd
      simp at hd
      subst hd
      have hx := hr x (List.mem_of_getElem? e)
      have hi : i < r.length := (List.getElem?_eq_some_iff.mp e).1
      refine ⟨_, rfl, ?_⟩
      have hse : zgg m (zcg m (r.take i) s) := zk8 hm (fun j hj => hr j (List.mem_of_mem_take hj)) hs
      have hl := zlv (m := m) (r.take i) s
      have hl2 : (r.take i).length = i := by simp; omega
      simp [-zgu, md2, zq2 hx, zlk, zzh h n hm (zju hm hx) hse]
      refine ⟨?_, ?_⟩
      · rw [hl, hl2]
        exact Nat.lt_of_le_of_lt (show i + 1 ≤ 100001 by omega) (by decide)
      · rw [List.take_succ, e]
        simp [zoj]
  · rintro ρ M' ⟨rfl, a, rfl⟩
    simp
def zji (m : zbc) (r : List Nat) : D := .tup ((zcd m).map fun s => zau (zcg m r s))
theorem zpx (h15 : P 15 = some ⟨1, 6, zdc⟩) (h46 : P 46 = some ⟨2, 2, ze9⟩) (n : Nat) {m : zbc} {x : D} {r : List Nat} (hx : zbk M x r) (hm : zb4 m) (hrl : r.length ≤ 100000) (hr : ∀ i ∈ r, i < m.deeds.length) : za0 P (n + 10) 46 [m.d, x] M = .ok (zji m r) (M ++ (zcd m).map fun s => (zeo m r s).map zau) := by
  refine zba (za8 h46 rfl ?_)
  simp [ze9, zr9 h h15 n hm]
  refine ⟨rfl, ?_⟩
  have bl := zri hm
  refine comp_map (ds := (zcd m).map zau) (fun i acc M' => acc = ((zcd m).take i).map (fun s => zau (zcg m r s)) /\ M' = M ++ ((zcd m).take i).map fun s => (zeo m r s).map zau) (zas (by simp; omega)) (fun _ _ _ _ => rfl) (by simp) ?_ ?_
  · rintro i d acc M' hd _ ⟨rfl, eM⟩
    rw [List.getElem?_map] at hd
    cases e : (zcd m)[i]? with
    | none => rw [e] at hd; cases hd
    | some s =>
      rw [e] at hd
      have hd : zau s = d := Option.some.inj hd
      subst hd
      have hs := zn8 s (List.mem_of_getElem? e)
      refine ⟨_, rfl, ?_⟩
      have st := zrq h (n + 6) (M := M') (by rw [eM]; exact hx.sub Sub.app) hm hrl hr hs
      simp [st, zlk]
      rw [eM, List.take_succ, List.take_succ]
      simp [e]
  · rintro acc M' _ ⟨rfl, rfl⟩
    simp
    exact ⟨zas (by omega), by simp [zji, List.take_of_length_le]⟩
theorem ziz (h15 : P 15 = some ⟨1, 6, zdc⟩) (h27 : P 27 = some ⟨2, 2, zez⟩) (h46 : P 46 = some ⟨2, 2, ze9⟩) (n : Nat) {m : zbc} {x : D} {r : List Nat} (hx : zbk M x r) (hm : zb4 m) (hr : zb3 m r) : za0 P (n + 11) 27 [m.d, x] M = .ok (zji m r) (M ++ (zcd m).map fun s => (zeo m r s).map zau) := by
  refine zba (za8 h27 rfl ?_)
  simp [zez, zkk h (n + 1) hx hm hr, zpx h h15 h46 n hx hm (Nat.le_trans hr.1 (by decide)) hr.2]
theorem sp_beh (h15 : P 15 = some ⟨1, 6, zdc⟩) (h27 : P 27 = some ⟨2, 2, zez⟩) (h46 : P 46 = some ⟨2, 2, ze9⟩) (n : Nat) {m : zbc} {r : List Nat} (hm : zb4 m) (hr : zb3 m r) : za0 P (n + 11) 27 [m.d, zep r] M = .ok (zji m r) (M ++ (zcd m).map fun s => (zeo m r s).map zau) := ziz h h15 h27 h46 n .l hm hr
end
end LD
namespace LD
open PySem
@[simp] theorem zx1 {j : Nat} {M : Mem} {k : D -> Mem -> Prop} : okE (zex .len [.cell j] M) k ↔ ∃ ds, M[j]? = some ds /\ k (.int ds.length) M := by
  show okE (match M[j]? with | some xs => _ | none => _) k ↔ _
  cases M[j]? <;> simp
structure zbj (M : Mem) (p B : Nat) : Prop where
  ex : ∃ (c : Nat) (cells : List Int) (at_ st : Int), M[p]? = some [.cell c, .int at_, .int st] /\ M[c]? = some (cells.map D.int) /\ c < p /\ 0 ≤ at_ /\ at_ ≤ B /\ 0 ≤ st
structure zbr (p : Nat) (M M' : Mem) : Prop where
  len : M.length ≤ M'.length
  at' : ∀ k, k < M.length -> k ≠ p -> M'[k]? = M[k]?
theorem zbr.refl {p : Nat} {M : Mem} : zbr p M M := ⟨Nat.le_refl _, fun _ _ _ => rfl⟩
theorem zbr.trans {p : Nat} {M M1 M2 : Mem} (a : zbr p M M1) (b : zbr p M1 M2) : zbr p M M2 := ⟨Nat.le_trans a.len b.len, fun k hk n => (b.at' k (Nat.lt_of_lt_of_le hk a.len) n).trans (a.at' k hk n)⟩
theorem zbr.set {p : Nat} {M : Mem} {ds : List D} : zbr p M (M.set p ds) := ⟨by simp, fun k _ n => List.getElem?_set_ne (Ne.symm n)⟩
theorem zbr.app {p : Nat} {M X : Mem} : zbr p M (M ++ X) := ⟨by simp, fun k hk _ => List.getElem?_append_left hk⟩
theorem zbr.get {p k : Nat} {M M' : Mem} {ds : List D} (h : zbr p M M') (e : M[k]? = some ds) (n : k ≠ p) : M'[k]? = some ds := by rw [h.at' k (List.getElem?_eq_some_iff.mp e).1 n]; exact e
theorem zbj.lt {M : Mem} {p B : Nat} (h : zbj M p B) : p < M.length := by obtain ⟨_, _, _, _, e, _⟩ := h.ex; exact (List.getElem?_eq_some_iff.mp e).1
theorem zbj.app {M X : Mem} {p B : Nat} (h : zbj M p B) : zbj (M ++ X) p B := by
  obtain ⟨c, cells, a, st, e1, e2, r⟩ := h.ex
  exact ⟨c, cells, a, st, by rw [List.getElem?_append_left (List.getElem?_eq_some_iff.mp e1).1]; exact e1, by rw [List.getElem?_append_left (List.getElem?_eq_some_iff.mp e2).1]; exact e2, r⟩
theorem zbj.mono {M : Mem} {p B B' : Nat} (h : zbj M p B) (hb : B ≤ B') : zbj M p B' := by
  obtain ⟨c, cells, a, st, e1, e2, e3, e4, e5, e6⟩ := h.ex
  exact ⟨c, cells, a, st, e1, e2, e3, e4, by omega, e6⟩
theorem zbj.setq {M : Mem} {p q B : Nat} {ds : List D} (h : zbj M p B) (hq : p < q) : zbj (M.set q ds) p B := by
  obtain ⟨c, cells, a, st, e1, e2, e3, e4, e5, e6⟩ := h.ex
  exact ⟨c, cells, a, st, by rw [List.getElem?_set_ne (by omega)]; exact e1, by rw [List.getElem?_set_ne (by omega)]; exact e2, e3, e4, e5, e6⟩
theorem zbr.setq {p q : Nat} {M M' : Mem} {ds : List D} (h : zbr p M M') (hq : M.length ≤ q) : zbr p M (M'.set q ds) := ⟨by simpa using h.len, fun k hk n => by rw [List.getElem?_set_ne (by omega)]; exact h.at' k hk n⟩
theorem zvu {a b A B : Int} (h1 : 0 ≤ a) (h2 : a ≤ A) (h3 : 0 ≤ b) (h4 : b ≤ B) : 0 ≤ a * b /\ a * b ≤ A * B :=
  ⟨Int.mul_nonneg h1 h3, Int.mul_le_mul h2 h4 h3 (Int.le_trans h1 h2)⟩
def zz0 : List D := [.int 2147483629, .int 2147483587, .int 2147483579, .int 2147483563, .int 2147483549, .int 2147483543, .int 2147483497, .int 2147483489, .int 2147483477, .int 2147483423, .int 2147483399, .int 2147483353, .int 2147483323]
theorem zlx (j : Int) (M : Mem) : ∃ q : Int, zcp (.lst zz0) (.int (j % 13)) M = some (.int q) /\ 0 < q /\ q < 2147483648 := by
  have h1 : 0 ≤ j % 13 := Int.emod_nonneg _ (by decide)
  have h2 : j % 13 < 13 := Int.emod_lt_of_pos _ (by decide)
  generalize j % 13 = i at h1 h2
  have : i = 0 \/ i = 1 \/ i = 2 \/ i = 3 \/ i = 4 \/ i = 5 \/ i = 6 \/ i = 7 \/ i = 8 \/ i = 9 \/ i = 10 \/ i = 11 \/ i = 12 := by omega
  rcases this with rfl | rfl | rfl | rfl | rfl | rfl | rfl | rfl | rfl | rfl | rfl | rfl | rfl <;> exact ⟨_, rfl, by decide, by decide⟩
section
variable {P : Nat -> Option Df} (h : zl4 P) {M : Mem}
include h
theorem zul (n : Nat) {x a : Int} (h0 : 0 ≤ a) (h1 : a ≤ 1000000) : okE (za0 P (n + 1) 28 [.int x, .int a] M) fun d M' => M' = M /\ ∃ v : Int, d = .int v /\ 0 ≤ v := by
  refine za8 h.law_spread rfl ?_
  simp [-zso, zgl]
  by_cases hx : (1000000000000000000 : Int) ≤ x
  · exact .inr ⟨hx, by omega⟩
  · have r1 := Int.emod_nonneg x (show (1000000007 : Int) ≠ 0 by decide)
    have r2 := Int.emod_lt_of_pos x (show (0 : Int) < 1000000007 by decide)
    have r3 := Int.emod_nonneg x (show (65537 : Int) ≠ 0 by decide)
    have r4 := Int.emod_lt_of_pos x (show (0 : Int) < 65537 by decide)
    obtain ⟨m1, m2⟩ := zvu r1 (Int.le_of_lt r2) (show 0 ≤ 2 * a + 69069 by omega) (show 2 * a + 69069 ≤ 2069069 by omega)
    refine .inl ⟨by omega, by decide, by decide, by decide, .inl ⟨by omega, by omega⟩, by omega, ?_⟩
    obtain ⟨q1, e1, p1, p2⟩ := zlx a M
    refine ⟨.int q1, e1, ?_⟩
    generalize (x % 1000000007 * (2 * a + 69069) + a * 40503 + 977) ^ 3 = y1
    have b1 := Int.emod_nonneg y1 (show q1 ≠ 0 by omega)
    have b2 := Int.emod_lt_of_pos y1 p1
    generalize hz1 : y1 % q1 = one at b1 b2
    obtain ⟨m3, m4⟩ := zvu b1 (show one ≤ 2147483648 by omega) (show 0 ≤ a + 3 by omega) (show a + 3 ≤ 1000003 by omega)
    simp only [zmv, zqw, zh0, zqd, hz1]
    refine ⟨p1, .inr ⟨by omega, by omega⟩, ⟨by decide, by decide, by omega⟩, ?_⟩
    obtain ⟨q2, e2, p3, p4⟩ := zlx (a + 5) M
    refine ⟨.int q2, e2, ?_⟩
    generalize (one * (a + 3) + x % 65537 + 5) ^ (5 : Int).toNat = y2
    have b3 := Int.emod_nonneg y2 (show q2 ≠ 0 by omega)
    have b4 := Int.emod_lt_of_pos y2 p3
    generalize hz2 : y2 % q2 = two at b3 b4
    have r5 := Int.emod_nonneg one (show (1009 : Int) ≠ 0 by decide)
    have r6 := Int.emod_lt_of_pos one (show (0 : Int) < 1009 by decide)
    simp only [zmv, zqw, zh0, zqd, hz2]
    refine ⟨p3, by decide, ⟨by decide, by decide, by omega⟩, ?_⟩
    obtain ⟨q3, e3, p5, p6⟩ := zlx (a + 7) M
    refine ⟨.int q3, e3, ?_⟩
    generalize (two + one % 1009 + a) ^ (3 : Int).toNat = y3
    have b5 := Int.emod_nonneg y3 (show q3 ≠ 0 by omega)
    simp only [zmv, zqw, zh0, zqd]
    refine ⟨p5, .inr ⟨by decide, by decide⟩, .inr ⟨by decide, by decide⟩, trivial, _, rfl, by omega⟩
omit h in
theorem ix30 : ixN 3 0 = some 0 := rfl
omit h in
theorem ix31 : ixN 3 1 = some 1 := rfl
omit h in
theorem ix32 : ixN 3 2 = some 2 := rfl
omit h in
theorem zn1 {l : List Int} {i : Int} (h0 : 0 ≤ i) (h1 : i < l.length) : ∃ x, ((ixN l.length i).bind fun j => Option.map D.int l[j]?) = some (.int x) := by
  obtain ⟨k, rfl⟩ := Int.eq_ofNat_of_zero_le h0
  have hk : k < l.length := by omega
  refine ⟨l[k], ?_⟩
  rw [ze4 hk]
  simp [hk]
def zjv : GS := zad (zar (.one 4) (zav false .mod (za2 (zaa 0) (gC (.int 2))) (zaa 1))) (zad (zfz (zaa 0) (gC (.int 2)) (zav false .fdiv (za2 (zaa 0) (gC (.int 2))) (zaa 1))) (zad (zay (zaa 4)) (zai)))
def zng (c : Call) : GS := zad (zfz (zaa 0) (gC (.int 1)) (zav false .add (zaa 2) (gC (.int 1)))) (zad (zfz (zaa 0) (gC (.int 2)) (zam 28 c (zab (zaa 3) (zab (zaa 2) (zah))))) (zai))
omit h in
theorem zog {M M1 : Mem} {p c many B : Nat} {cells : List Int} {a st : Int} {x y : Option D} (e1 : M1[p]? = some [.cell c, .int a, .int st]) (e2 : M1[c]? = some (cells.map D.int)) (lt : c < p) (a0 : 0 ≤ a) (aB : a ≤ (B + 1 : Nat)) (s0 : 0 ≤ st) (k : zbr p M M1)
    (h0 : 0 < many) (h1 : many ≤ 10000000) : okE (zjv [some (.cell p), some (nD many), x, y, none] M1) (zkv fun d M' => ∃ v : Nat, d = nD v /\ v < many /\ zbj M' p (B + 1) /\ zbr p M M') := by
  have hp : p < M1.length := (List.getElem?_eq_some_iff.mp e1).1
  have ne : c ≠ p := Nat.ne_of_lt lt
  have b0 : (0 : Int) < (many : Int) := by omega
  have r1 := Int.emod_nonneg st (show (many : Int) ≠ 0 by omega)
  have r2 := Int.emod_lt_of_pos st b0
  simp [zjv, e1, ixN]
  refine ⟨by omega, by omega, (st % many).toNat, by omega, by omega, ⟨c, cells, a, st / many, ?_, ?_, lt, a0, aB, Int.ediv_nonneg s0 (by omega)⟩, k.trans zbr.set⟩
  · simp [hp]
  · rw [List.getElem?_set_ne (Ne.symm ne)]; exact e2
theorem zzb (n : Nat) {p B many : Nat} (hp : zbj M p B) (hB : B ≤ 1000000) (h0 : 0 < many) (h1 : many ≤ 10000000) : okE (za0 P (n + 2) 31 [.cell p, nD many] M) fun d M' => ∃ v : Nat, d = nD v /\ v < many /\ zbj M' p (B + 1) /\ zbr p M M' := by
  obtain ⟨c, cells, a, st, e1, e2, lt, a0, aB, s0⟩ := hp.ex
  have ne : c ≠ p := Nat.ne_of_lt lt
  have hpl : p < M.length := (List.getElem?_eq_some_iff.mp e1).1
  refine za8 h.law_take rfl ?_
  show okE (zad (zbh _ (zad _ (zad _ (zad _ (zng (za0 P (n + 1)))))) _) zjv [some (.cell p), some (nD many), none, none, none] M) _
  have mid : ∀ (x : Int), okE (zng (za0 P (n + 1)) [some (.cell p), some (nD many), some (.int a), some (.int x), none] M) (zma zjv (zkv fun d M' => ∃ v : Nat, d = nD v /\ v < many /\ zbj M' p (B + 1) /\ zbr p M M')) := by
    intro x
    unfold zng
    simp [e1, ixN]
    refine za9 (zul h n (x := x) (a := a) a0 (by omega)) fun d M' ⟨e, v, ev, v0⟩ => ?_
    subst e ev
    refine ⟨[.cell c, .int (a + 1), .int st], by simp [hpl], 2, by simp, ?_⟩
    have k1 : zbr p M ((M.set p [.cell c, .int (a + 1), .int st]).set p ([.cell c, .int (a + 1), .int st].set 2 (.int v))) := zbr.set.trans zbr.set
    refine zog (c := c) (cells := cells) (a := a + 1) (st := v) ?_ ?_ lt (by omega) (by omega) v0 k1 h0 h1
    · simp [hpl]
    · rw [List.getElem?_set_ne (Ne.symm ne), List.getElem?_set_ne (Ne.symm ne)]; exact e2
  have c0 : (0 : Int) ≤ (cells.length : Int) := by omega
  simp [e1, e2, ix30, ix31, ix32, nD]
  by_cases c1 : st < many
  · refine .inr ⟨c1, ?_⟩
    by_cases c2 : a < (cells.length : Int)
    · obtain ⟨x, ex⟩ := zn1 a0 c2
      exact .inr ⟨c2, _, ex, mid x⟩
    · refine .inl ⟨by omega, ?_⟩
      by_cases c3 : cells = []
      · exact .inl ⟨c3, mid 0⟩
      · have c4 : 0 < cells.length := List.length_pos_iff.mpr c3
        have r1 := Int.emod_nonneg (a * 5 + 3) (show (cells.length : Int) ≠ 0 by omega)
        have r2 := Int.emod_lt_of_pos (a * 5 + 3) (show (0 : Int) < (cells.length : Int) by omega)
        obtain ⟨x, ex⟩ := zn1 r1 r2
        refine .inr ⟨c4, _, ex, ?_⟩
        simp only [zmv]
        exact ⟨by omega, mid _⟩
  · refine .inl ⟨by omega, ?_⟩
    exact zog e1 e2 lt a0 (by omega) s0 .refl h0 h1
end
end LD
namespace LD
open PySem
def zbg.withC : zbg -> Nat -> zbg
  | .turn a t _, c => .turn a t c
  | .join a o t _, c => .join a o t c
  | .move a o _, c => .move a o c
  | .put a x _, c => .put a x c
theorem zwp {w p c : Nat} {d : zbg} (h : zcf w p d) (hc : zhb c) : zcf w p (d.withC c) := by
  cases d with
  | turn => exact ⟨h.1, h.2.1, hc⟩
  | join => exact ⟨h.1, h.2.1, h.2.2.1, hc⟩
  | move => exact ⟨h.1, h.2.1, hc⟩
  | put => exact ⟨h.1, h.2.1, hc⟩
theorem z0s {w p : Nat} {d : zbg} (h : zcf w p d) : zhb d.cost := by
  cases d with
  | turn => exact h.2.2
  | join => exact h.2.2.2
  | move => exact h.2.2
  | put => exact h.2.2
theorem zyb {d : zbg} {c : Nat} {M : Mem} {k : D -> Mem -> Prop} (hk : k (d.withC c).d M) : okE (zb7 false d.d .non (.int (-1)) M) fun x M => okE (zey false .add x (.tup [nD c]) M) k := by
  cases d <;> (simp [zbg.d, zb7, sIx, cut]; exact ⟨by decide, hk⟩)
theorem zwx (n : Nat) (d : zbg) : zat (n + 3) d.d = true := by
  have tp : ∀ (n : Nat) (l : List Nat), (l.map nD).all (zat n) = true := fun n l => by
    rw [List.all_eq_true]; intro x hx; obtain ⟨i, _, rfl⟩ := List.mem_map.mp hx; cases n <;> rfl
  cases d with
  | turn a t c => simp [zbg.d, zat, zau, nD]; decide +kernel
  | join a o t c => simp [zbg.d, zat, nD, zau]; decide +kernel
  | move a o c => simp [zbg.d, zat, nD]; decide +kernel
  | put a x c => simp [zbg.d, zat, nD]; decide +kernel
theorem ne_nil {M : Mem} {q : Nat} {ds : List zbg} (e : M[q]? = some (ds.map zbg.d)) : zb2 .ne (.cell q) (.lst []) M = some (!ds.isEmpty) := by
  have hp : (ds.map zbg.d).all (zat 63) = true := by
    rw [List.all_eq_true]; intro x hx; obtain ⟨d, _, rfl⟩ := List.mem_map.mp hx; exact zwx 60 d
  have hv : view M (.cell q) = .lst (ds.map zbg.d) := by simp [view, e]
  have h1 : zat 64 (.lst (ds.map zbg.d)) = true := hp
  refine zhl (by rw [hv]; exact h1) rfl ?_
  rw [hv]
  cases ds <;> rfl
@[simp] theorem mul_ti {m : Bool} {x : List D} {j : Int} {M : Mem} {k : D -> Mem -> Prop} : okE (zey m .mul (.tup x) (.int j) M) k ↔ (x.length * j.toNat ≤ sz /\ -(2 ^ 63) ≤ j /\ j < 2 ^ 63) /\ k (.tup (List.replicate j.toNat x).flatten) M := zit
@[simp] theorem mul_li {m : Bool} {x : List D} {j : Int} {M : Mem} {k : D -> Mem -> Prop} : okE (zey m .mul (.lst x) (.int j) M) k ↔ (x.length * j.toNat ≤ sz /\ -(2 ^ 63) ≤ j /\ j < 2 ^ 63) /\ okE (zbn m (List.replicate j.toNat x).flatten M) k := zit
theorem zmf {xs : List D} {a : Nat} {M : Mem} {k : D -> Mem -> Prop} : okE (zb7 false (.lst xs) .non (.int a) M) k ↔ (xs.take a).length ≤ sz /\ k (.lst (xs.take a)) M := by
  have e : cut xs 0 (min a xs.length) = xs.take a := by
    unfold cut
    rcases Nat.le_total a xs.length with h | h
    · rw [Nat.min_eq_left h]; simp
    · rw [Nat.min_eq_right h]; simp [List.take_of_length_le h]
  show okE (match sIx xs.length 0 D.non, sIx xs.length xs.length (.int a) with | some l, some h => zbn false (cut xs l h) M | _, _ => .bad) k ↔ _
  have e2 : sIx xs.length xs.length (.int a) = some (min a xs.length) := by
    show some _ = _
    rw [if_neg (by omega)]; simp
  rw [e2]
  show okE (zbn false (cut xs 0 (min a xs.length)) M) k ↔ _
  rw [e, zce]
theorem zpz {xs : List D} {a : Nat} {M : Mem} {k : D -> Mem -> Prop} : okE (zb7 false (.lst xs) (.int a) .non M) k ↔ (xs.drop a).length ≤ sz /\ k (.lst (xs.drop a)) M := by
  have e : cut xs (min a xs.length) xs.length = xs.drop a := by
    unfold cut
    rcases Nat.le_total a xs.length with h | h
    · rw [Nat.min_eq_left h, List.take_of_length_le (by simp)]
    · rw [Nat.min_eq_right h]; simp [List.drop_eq_nil_of_le h]
  show okE (match sIx xs.length 0 (.int a), sIx xs.length xs.length D.non with | some l, some h => zbn false (cut xs l h) M | _, _ => .bad) k ↔ _
  have e2 : sIx xs.length 0 (.int a) = some (min a xs.length) := by
    show some _ = _
    rw [if_neg (by omega)]; simp
  rw [e2]
  show okE (zbn false (cut xs (min a xs.length) xs.length) M) k ↔ _
  rw [e, zce]
theorem zra {w : Nat} {ge : GE} {ρ : Env} {M : Mem} {kl : List D -> Mem -> Prop} (f : Nat -> Nat) (hw : w ≤ 100) (hf : ∀ k, k < w -> ge (some (.int (k : Int)) :: ρ) M = .ok (nD (f k)) M) (hk : kl (((List.range w).map f).map nD) M) :
    okE (zdu (zdv (.one 0) (zb8 ge) (none :: ρ)) (fun _ => some ((List.range w).map fun (k : Nat) => D.int (k : Int))) [] M) kl := by
  refine zhz (ds := (List.range w).map fun (k : Nat) => D.int (k : Int)) (fun d => match d with | .int i => nD (f i.toNat) | _ => .non) (zas (by simp; omega)) rfl (fun d hd => ?_) ?_
  · obtain ⟨k, hk, rfl⟩ := List.mem_map.mp hd
    exact ⟨_, rfl, hf k (List.mem_range.mp hk)⟩
  · simpa [Function.comp_def] using hk
theorem zr7 {w : Nat} {f : Nat -> Nat} (hf : ∀ k, k < w -> f k < w) : zii w ((List.range w).map f) := ⟨by simp, fun x hx => by
  obtain ⟨k, hk, rfl⟩ := List.mem_map.mp hx
  exact hf k (List.mem_range.mp hk)⟩
section
variable {P : Nat -> Option Df} (h : zl4 P) {M : Mem}
include h
theorem zzk (n : Nat) {p B : Nat} (hp : zbj M p B) : okE (za0 P (n + 1) 30 [.cell p] M) fun d M' => d = .cell p /\ zbj M' p B /\ zbr p M M' := by
  obtain ⟨c, cells, a, st, e1, e2, lt, a0, aB, s0⟩ := hp.ex
  have ne : c ≠ p := Nat.ne_of_lt lt
  have hpl : p < M.length := (List.getElem?_eq_some_iff.mp e1).1
  refine za8 h.law_anew rfl ?_
  simp [zhq, e1, ix32]
  refine ⟨⟨c, cells, a, 0, by simp [hpl], ?_, lt, a0, aB, by omega⟩, zbr.set⟩
  rw [List.getElem?_set_ne (Ne.symm ne)]; exact e2
abbrev Drawn (M : Mem) (p B : Nat) (Q : D -> Prop) : D -> Mem -> Prop := fun d M' => Q d /\ zbj M' p B /\ zbr p M M'
theorem tk (n : Nat) {p B many : Nat} {k : D -> Mem -> Prop} (hp : zbj M p B) (hB : B ≤ 1000000) (h0 : 0 < many) (h1 : many ≤ 10000000) (hk : ∀ (v : Nat) (M' : Mem), v < many -> zbj M' p (B + 1) -> zbr p M M' -> k (nD v) M') : okE (za0 P (n + 2) 31 [.cell p, nD many] M) k :=
  za9 (zzb h n hp hB h0 h1) fun d M' ⟨v, e, hv, hp', hk'⟩ => by subst e; exact hk v M' hv hp' hk'
theorem zuk (n : Nat) {p B w : Nat} (hp : zbj M p B) (hB : B ≤ 900000) (w2 : 2 ≤ w) (w4 : w ≤ 4) : okE (za0 P (n + 3) 32 [.cell p, nD w] M) fun d M' => ∃ t, d = zau t /\ zii w t /\ zbj M' p (B + 7) /\ zbr p M M' := by
  refine za8 h.law_tab rfl ?_
  simp only [zif, zby, zda, zd1, zcw, zdp, e_c, zcj]
  simp only [Option.some.injEq, exists_eq_left', List.getElem?_cons_zero, List.getElem?_cons_succ, Option.getD_some, List.map_cons, List.map_nil, List.cons_append, List.nil_append]
  refine tk h n (many := 6) hp (by omega) (by decide) (by decide) fun kind M1 hk p1 k1 => ?_
  simp [nD]
  refine tk h n p1 (by omega) (by omega) (by omega) fun word M2 hw p2 k2 => ?_
  simp [nD]
  refine tk h n p2 (by omega) (by omega) (by omega) fun other M3 ho p3 k3 => ?_
  have K3 := (k1.trans k2).trans k3
  simp [nD]
  have fin : ∀ (l : List Nat) (M' : Mem), zii w l -> zbj M' p (B + 7) -> zbr p M M' -> (l.map nD).length ≤ sz /\ ∃ t, D.tup (l.map nD) = zau t /\ zii w t /\ zbj M' p (B + 7) /\ zbr p M M' := fun l M' hl hp' hk' => ⟨zas (by simp [hl.1]; omega), l, rfl, hl, hp', hk'⟩
  have p7 : zbj M3 p (B + 7) := p3.mono (by omega)
  by_cases c1 : kind < 2
  · refine .inr ⟨by omega, by omega, ?_⟩
    refine comp_map (ds := (List.range w).map fun (k : Nat) => D.int (k : Int)) (fun i acc M' => ∃ t : List Nat, acc = t.map nD /\ (∀ x ∈ t, x < w) /\ zbj M' p (B + 3 + i) /\ zbr p M M') (zas (by simp; omega)) (fun _ _ _ _ => rfl) ⟨[], rfl, by simp, p3, K3⟩ ?_ ?_
    · rintro i d acc M' hd _ ⟨t, rfl, ht, hp', hk'⟩
      have hi : i < w := by
        have := (List.getElem?_eq_some_iff.mp hd).1
        simpa using this
      refine ⟨_, rfl, ?_⟩
      simp
      refine tk h n hp' (by omega) (by omega) (by omega) fun v M4 hv p4 k4 => ⟨t ++ [v], by simp, fun x hx => ?_, p4.mono (by omega), hk'.trans k4⟩
      rcases List.mem_append.mp hx with z | z
      · exact ht x z
      · simp at z; omega
    · rintro acc M' hl ⟨t, rfl, ht, hp', hk'⟩
      simp at hl
      exact fin t M' ⟨hl, ht⟩ (hp'.mono (by simp; omega)) hk'
  refine .inl ⟨by omega, ?_⟩
  by_cases c2 : kind = 2
  · refine .inr ⟨by omega, by omega, ?_⟩
    refine zra (fun k => (k + 1 + word) % w) (by omega) (fun k hk => zba ?_) (fin _ M3 (zr7 fun k _ => Nat.mod_lt _ (by omega)) p7 K3)
    simp
    omega
  refine .inl ⟨by omega, ?_⟩
  by_cases c3 : kind = 3
  · refine .inr ⟨by omega, by omega, ?_⟩
    refine zra (fun k => if k = word then other else k) (by omega) (fun k hk => zba ?_) (fin _ M3 (zr7 fun k hk => by split <;> omega) p7 K3)
    by_cases ck : k = word
    · simp [ck]
    · have : ¬ ((k : Int) = (word : Int)) := by omega
      simp [ck, this]
  refine .inl ⟨by omega, ?_⟩
  by_cases c4 : kind = 4
  · refine .inr ⟨by omega, by decide, ⟨zas (by omega), by omega⟩, List.replicate w word, ?_, ⟨by simp, fun x hx => by rw [List.eq_of_mem_replicate hx]; exact hw⟩, p7, K3⟩
    simp [zau, nD]
  · refine .inl ⟨by omega, by omega, zas (by omega), word, ze4 hw, other, ze4 ho, ((List.range w).set word other).set other word, ?_, ⟨by simp, fun x hx => ?_⟩, p7.app, K3.trans zbr.app⟩
    · simp [zau, nD, List.map_set]
    · rcases List.mem_or_eq_of_mem_set hx with z | z
      · rcases List.mem_or_eq_of_mem_set z with y | y
        · exact List.mem_range.mp y
        · omega
      · omega
theorem zw0 (n : Nat) {p B w pl : Nat} (hp : zbj M p B) (hB : B ≤ 800000) (w2 : 2 ≤ w) (w4 : w ≤ 4) (p1 : 1 ≤ pl) (p2 : pl ≤ 2) : okE (za0 P (n + 4) 33 [.cell p, nD w, nD pl] M) fun d M' => ∃ e : zbg, d = e.d /\ zcf w pl e /\ zbj M' p (B + 40) /\ zbr p M M' := by
  refine za8 h.law_deed rfl ?_
  simp only [zhp, zby, zda, zd1, zcw, zdp, e_c, zcj]
  simp only [Option.some.injEq, exists_eq_left', List.getElem?_cons_zero, List.getElem?_cons_succ, Option.getD_some, List.map_cons, List.map_nil, List.cons_append, List.nil_append]
  refine tk h (n + 1) (many := 8) hp (by omega) (by decide) (by decide) fun kind M1 hk q1 k1 => ?_
  simp [nD]
  refine tk h (n + 1) (many := 3) q1 (by omega) (by decide) (by decide) fun price M2 hc q2 k2 => ?_
  simp [nD]
  refine tk h (n + 1) q2 (by omega) (by omega) (by omega) fun at_ M3 ha q3 k3 => ?_
  simp [nD]
  refine tk h (n + 1) q3 (by omega) (by omega) (by omega) fun other M4 ho q4 k4 => ?_
  have K4 := ((k1.trans k2).trans k3).trans k4
  simp [nD]
  have ec : (1 + (price : Int)) = ((1 + price : Nat) : Int) := by omega
  have co : zhb (1 + price) := ⟨by omega, by omega⟩
  rw [ec]
  by_cases c1 : kind < 3
  · refine .inr ⟨by omega, za9 (zuk h n q4 (by omega) w2 w4) fun d M' ⟨t, e, ht, hp', hk'⟩ => ⟨by decide, .turn at_ t (1 + price), ?_, ⟨ha, ht, co⟩, hp'.mono (by omega), K4.trans hk'⟩⟩
    subst e; rfl
  refine .inl ⟨by omega, ?_⟩
  by_cases c2 : kind < 5
  · refine .inr ⟨by omega, ?_⟩
    by_cases c3 : kind = 3
    · refine .inr ⟨by omega, by omega, by decide, .move at_ ((at_ + 1) % pl) (1 + price), ?_, ⟨ha, Nat.mod_lt _ (by omega), co⟩, q4.mono (by omega), K4⟩
      simp [zbg.d, nD]
    · exact .inl ⟨by omega, by decide, .move at_ other (1 + price), rfl, ⟨ha, ho, co⟩, q4.mono (by omega), K4⟩
  refine .inl ⟨by omega, ?_⟩
  by_cases c4 : kind = 5
  · exact .inr ⟨by omega, tk h (n + 1) q4 (by omega) (by omega) (by omega) fun v M5 hv q5 k5 => ⟨by decide, .put at_ v (1 + price), rfl, ⟨ha, hv, co⟩, q5.mono (by omega), K4.trans k5⟩⟩
  · refine .inl ⟨by omega, by omega, ?_⟩
    refine comp_map (ds := (List.range w).map fun (k : Nat) => D.int (k : Int)) (fun i acc M' => ∃ t : List (List Nat), acc = t.map zau /\ (∀ x ∈ t, zii w x) /\ zbj M' p (B + 4 + i * 7) /\ zbr p M M') (zas (by simp; omega)) (fun _ _ _ _ => rfl) ⟨[], rfl, by simp, q4, K4⟩ ?_ ?_
    · rintro i d acc M' hd _ ⟨t, rfl, ht, hp', hk'⟩
      have hi : i < w := by
        have := (List.getElem?_eq_some_iff.mp hd).1
        simpa using this
      refine ⟨_, rfl, ?_⟩
      simp
      refine za9 (zuk h n hp' (by omega) w2 w4) fun d M4 ⟨v, e, hv, p4, k4⟩ => ⟨t ++ [v], by subst e; simp, fun x hx => ?_, p4.mono (by omega), hk'.trans k4⟩
      rcases List.mem_append.mp hx with z | z
      · exact ht x z
      · simp at z; subst z; exact hv
    · rintro acc M' hl ⟨t, rfl, ht, hp', hk'⟩
      simp at hl
      refine ⟨zas (by simp [hl]; omega), by decide, .join at_ other t (1 + price), rfl, ⟨ha, ho, ⟨hl, ht⟩, co⟩, hp'.mono (by simp; omega), hk'⟩
theorem zsz (n : Nat) {p B W Pl mo : Nat} (hp : zbj M p B) (hB : B ≤ 700000) (W2 : 2 ≤ W) (W4 : W ≤ 4) (P1 : 1 ≤ Pl) (P2 : Pl ≤ 2) (m1 : 1 ≤ mo) (m6 : mo ≤ 6) : okE (za0 P (n + 5) 34 [.cell p, nD W, nD Pl, nD mo] M) fun d M' => ∃ m : zbc, d = m.d /\ zb4 m /\ m.words ≤ W /\ m.places ≤ Pl /\ m.deeds.length ≤ mo /\ zbj M' p (B + 300) /\ zbr p M M' := by
  refine za8 h.law_machine rfl ?_
  simp only [zgf, zby, zda, zd1, zcw, zdp, e_c, zcj, zib]
  simp only [Option.some.injEq, exists_eq_left', List.getElem?_cons_zero, List.getElem?_cons_succ, Option.getD_some, List.map_cons, List.map_nil, List.cons_append, List.nil_append, zpt, nD]
  rw [show ((W : Int) - 1) = ((W - 1 : Nat) : Int) by omega]
  refine tk h (n + 2) hp (by omega) (by omega) (by omega) fun w M1 hw q1 k1 => ?_
  simp [nD]
  refine tk h (n + 2) q1 (by omega) (by omega) (by omega) fun pl M2 hpl q2 k2 => ?_
  simp [nD]
  have pl2 : p < M2.length := q2.lt
  have K2 := k1.trans k2
  refine tk h (n + 2) q2.app (by omega) (by omega) (by omega) fun many M3 hmany q3 k3 => ?_
  have e3 : M3[M2.length]? = some [] := k3.get (by simp) (by omega)
  have K3 : zbr p M M3 := K2.trans (zbr.app.trans k3)
  have ML : M.length ≤ M2.length := K2.len
  simp only [zh0, D.int.injEq, exists_eq_left']
  refine ⟨⟨by omega, by omega⟩, ?_⟩
  rw [show (1 + (many : Int)).toNat = 1 + many by omega]
  generalize hq : M2.length = q at *
  refine zeb (ds := (List.range (1 + many)).map fun (k : Nat) => D.int (k : Int)) (fun i ρ M' => ∃ ds : List zbg, M'[q]? = some (ds.map zbg.d) /\ ds.length = i /\ (∀ d ∈ ds, zcf (2 + w) (1 + pl) d) /\ zbj M' p (B + 3 + i * 45) /\ zbr p M M' /\ ∃ a b c, ρ = [some (.cell p), some (nD (2 + w)), some (nD (1 + pl)), some (nD mo), some (.cell q), a, b, c])
    (fun _ _ _ _ => rfl) ⟨[], e3, rfl, by simp, q3, K3, none, none, none, by simp [nD]⟩ ?_ ?_
  · rintro i d ρ M' hd ⟨ds, e4, hl, hds, q4, K4, a, b, c, rfl⟩
    have hi : i < 1 + many := by
      have := (List.getElem?_eq_some_iff.mp hd).1
      simpa using this
    refine ⟨_, rfl, ?_⟩
    have fin : ∀ (e : zbg) (M'' : Mem) (x y : Option D), zcf (2 + w) (1 + pl) e -> M''[q]? = some (ds.map zbg.d) -> zbj M'' p (B + 3 + (i + 1) * 45) -> zbr p M M'' ->
        ∃ es : List zbg, (M''.set q (ds.map zbg.d ++ [e.d]))[q]? = some (es.map zbg.d) /\ es.length = i + 1 /\ (∀ d ∈ es, zcf (2 + w) (1 + pl) d) /\ zbj (M''.set q (ds.map zbg.d ++ [e.d])) p (B + 3 + (i + 1) * 45) /\ zbr p M (M''.set q (ds.map zbg.d ++ [e.d])) := by
      intro e M'' x y he e5 q5 K5
      refine ⟨ds ++ [e], ?_, by simp [hl], fun d hd => ?_, q5.setq (by omega), K5.setq (by omega)⟩
      · rw [List.getElem?_set_self (List.getElem?_eq_some_iff.mp e5).1]; simp
      · rcases List.mem_append.mp hd with z | z
        · exact hds d z
        · simp at z; subst z; exact he
    simp only [zby, zda, zd1, zcw, zdp, e_c, zcj, zch]
    simp [nD]
    refine tk h (n + 2) (many := 5) q4 (by omega) (by decide) (by decide) fun again M5 ha q5 k5 => ?_
    have e5 := k5.get e4 (by omega)
    simp [nD]
    rw [show (2 + (w : Int)) = ((2 + w : Nat) : Int) by omega, show (1 + (pl : Int)) = ((1 + pl : Nat) : Int) by omega]
    refine za9 (zw0 h n (w := 2 + w) (pl := 1 + pl) q5 (by omega) (by omega) (by omega) (by omega) (by omega)) fun d6 M6 ⟨e, ed, he, q6, k6⟩ => ?_
    subst ed
    have e6 := k6.get e5 (by omega)
    have K6 := (K4.trans k5).trans k6
    have sm : ∀ l : List zbg, l.length ≤ 50 -> (l.map zbg.d).length < sz := fun l hl => Nat.lt_of_le_of_lt (show (l.map zbg.d).length ≤ 50 by simpa using hl) (by decide)
    have hsm := sm ds (by omega)
    by_cases c1 : again = 0
    · refine .inr ⟨c1, ?_⟩
      cases hde : ds with
      | nil =>
        refine .inl ⟨by rw [ne_nil e6, hde]; rfl, _, e6, hsm, fin e M6 none none he e6 (q6.mono (by omega)) K6⟩
      | cons d0 dr =>
        have hpos : 0 < ds.length := by rw [hde]; simp
        refine .inr ⟨by rw [ne_nil e6, hde]; rfl, _, e6, ?_⟩
        rw [List.length_map]
        refine tk h (n + 2) q6 (by omega) hpos (by omega) fun v M7 hv q7 k7 => ?_
        have e7 := k7.get e6 (by omega)
        refine ⟨(ds.getD v e).d, ?_, rfl, rfl, ?_⟩
        · show (M7[q]?).bind (fun ds => (ixN ds.length (v : Int)).bind fun j => ds[j]?) = _
          rw [e7]
          show (ixN (ds.map zbg.d).length (v : Int)).bind (fun j => (ds.map zbg.d)[j]?) = _
          rw [ze4 (by simpa using hv)]
          simp [List.getD_eq_getElem?_getD, hv]
        · refine za9 (zyb (d := ds.getD v e) (c := e.cost) (k := fun x M_4 => ∃ x_2, M_4[q]? = some x_2 /\ x_2.length < sz /\ ∃ es : List zbg, (List.set M_4 q (x_2 ++ [x]))[q]? = some (es.map zbg.d) /\ es.length = i + 1 /\ (∀ d ∈ es, zcf (2 + w) (1 + pl) d) /\ zbj (List.set M_4 q (x_2 ++ [x])) p (B + 3 + (i + 1) * 45) /\ zbr p M (List.set M_4 q (x_2 ++ [x]))) ?_) fun x1 M3 hx => ⟨nD e.cost, zv4, by decide, hx⟩
          exact ⟨_, e7, hsm, fin _ M7 none none (zwp (hds _ (getD_mem hv)) (z0s he)) e7 (q7.mono (by omega)) (K6.trans k7)⟩
    · exact .inl ⟨c1, _, e6, hsm, fin e M6 none none he e6 (q6.mono (by omega)) K6⟩
  · rintro ρ M' ⟨ds, e4, hl, hds, q4, K4, a, b, c, rfl⟩
    simp [e4]
    refine ⟨by decide, ⟨2 + w, 1 + pl, ds⟩, rfl, ⟨by show 2 ≤ 2 + w; omega, by show 2 + w ≤ 4; omega, by show 1 ≤ 1 + pl; omega, by show 1 + pl ≤ 2; omega, ?_, ?_, hds⟩, by show 2 + w ≤ W; omega, by show 1 + pl ≤ Pl; omega, ?_, q4.mono ?_, K4⟩
    · show 1 ≤ ds.length; simp at hl; omega
    · show ds.length ≤ 6; simp at hl; omega
    · show ds.length ≤ mo; simp at hl; omega
    · simp; omega
theorem znh (n : Nat) {p B mo : Nat} {m : zbc} (hm : zb4 m) (hp : zbj M p B) (hB : B ≤ 700000) (hmo : mo ≤ 40) : okE (za0 P (n + 3) 35 [.cell p, m.d, nD mo] M) fun d M' => ∃ r : List Nat, d = .lst (r.map nD) /\ zb3 m r /\ r.length ≤ mo /\ zbj M' p (B + 50) /\ zbr p M M' := by
  refine za8 h.law_row rfl ?_
  have d1 := hm.d1
  have d6 := hm.d6
  simp only [zig, zby, zda, zd1, zcw, zdp, e_c, zcj, e_ite]
  simp only [Option.some.injEq, exists_eq_left', List.getElem?_cons_zero, List.getElem?_cons_succ, Option.getD_some, List.map_cons, List.map_nil, List.cons_append, List.nil_append, nD]
  refine tk h n (many := 4) hp (by omega) (by omega) (by omega) fun kind M1 hk q1 k1 => ?_
  simp [nD]
  have core : ∀ (many : Nat) (M2 : Mem), many ≤ mo -> zbj M2 p (B + 2) -> zbr p M M2 -> okE (zdu (zdv (Tgt.one 0) (zb8 (zam 31 (za0 P (n + 2)) (zab (zaa 1) (zab (za7 Blt.len (zab (za2 (zaa 2) (gC (D.int 2))) zah)) zah))))
      [none, some (D.cell p), some m.d, some (D.int mo), some (D.int kind), some (D.int many), none]) (fun x => some (List.map (fun k : Nat => D.int k) (List.range many))) [] M2) fun acc M_2 => acc.length ≤ sz /\
        ((¬(kind : Int) = 1 /\ ∃ r, acc = List.map nD r /\ zb3 m r /\ r.length ≤ mo /\ zbj M_2 p (B + 50) /\ zbr p M M_2) \/ (kind : Int) = 1 /\ zcv false D.non = true /\ zcv true (D.int 2) = true /\
          okE (zb7 false (D.lst acc) D.non (D.int 2) M_2) fun x_1 M_3 => okE (zey false Bin.mul x_1 (D.int many) M_3) fun x_2 M_4 => zcv false D.non = true /\ zcv true (D.int many) = true /\
            okE (zb7 false x_2 D.non (D.int many) M_4) fun d M' => ∃ r, d = D.lst (List.map nD r) /\ zb3 m r /\ r.length ≤ mo /\ zbj M' p (B + 50) /\ zbr p M M') := by
    intro many M2 hmany q2 k2
    refine comp_map (ds := (List.range many).map fun (k : Nat) => D.int (k : Int)) (fun i acc M' => ∃ t : List Nat, acc = t.map nD /\ (∀ x ∈ t, x < m.deeds.length) /\ zbj M' p (B + 2 + i) /\ zbr p M M') (zas (by simp; omega)) (fun _ _ _ _ => rfl) ⟨[], rfl, by simp, q2, k2⟩ ?_ ?_
    · rintro i d acc M' hd _ ⟨t, rfl, ht, hp', hk'⟩
      have hi : i < many := by
        have := (List.getElem?_eq_some_iff.mp hd).1
        simpa using this
      refine ⟨_, rfl, ?_⟩
      simp [-zgu, md2]
      refine tk h n hp' (by omega) (by omega) (by omega) fun v M4 hv p4 k4 => ⟨t ++ [v], by simp, fun x hx => ?_, p4.mono (by omega), hk'.trans k4⟩
      rcases List.mem_append.mp hx with z | z
      · exact ht x z
      · simp at z; omega
    · rintro acc M' hl ⟨t, rfl, ht, hp', hk'⟩
      simp at hl
      have P50 : zbj M' p (B + 50) := hp'.mono (by simp; omega)
      refine ⟨zas (by simp; omega), ?_⟩
      by_cases c1 : kind = 1
      · refine .inr ⟨by omega, rfl, rfl, (zmf (a := 2)).mpr ⟨zas (by simp; omega), mul_li.mpr ⟨⟨?_, by omega, by omega⟩, zce.mpr ⟨?_, rfl, rfl, zmf.mpr ⟨?_, ?_⟩⟩⟩⟩⟩
        · refine Nat.le_trans (Nat.mul_le_mul (show _ ≤ 2 by simp; omega) (show _ ≤ 40 by omega)) (by decide)
        · rw [Int.toNat_natCast]
          simp
          exact Nat.le_trans (Nat.mul_le_mul (show many ≤ 40 by omega) (show min 2 t.length ≤ 2 by omega)) (by decide)
        · exact zas (by simp; omega)
        · rw [Int.toNat_natCast]
          refine ⟨((List.replicate many (t.take 2)).flatten).take many, by simp [List.map_flatten, List.map_take], ⟨by simp; omega, fun i hi => ?_⟩, by simp; omega, P50, hk'⟩
          have := List.mem_of_mem_take hi
          simp only [List.mem_flatten, List.mem_replicate] at this
          obtain ⟨l, ⟨_, rfl⟩, hl2⟩ := this
          exact ht i (List.mem_of_mem_take hl2)
      · exact .inl ⟨by omega, t, rfl, ⟨by omega, ht⟩, by omega, P50, hk'⟩
  by_cases c0 : kind = 0
  · exact .inr ⟨c0, by omega, core mo M1 (Nat.le_refl _) (q1.mono (by omega)) k1⟩
  · refine .inl ⟨c0, ?_⟩
    rw [show ((mo : Int) + 1) = ((mo + 1 : Nat) : Int) by omega]
    refine tk h n q1 (by omega) (by omega) (by omega) fun many M2 hmany q2 k2 => ⟨many, rfl, ⟨by omega, by omega⟩, ?_⟩
    exact core many M2 (by omega) q2 (k1.trans k2)
end
end LD
namespace LD
open PySem
theorem zzm {xs : List D} {a b : Nat} {M : Mem} {k : D -> Mem -> Prop} : okE (zb7 false (.frz xs) (.int a) (.int b) M) k ↔ (cut xs (min a xs.length) (min b xs.length)).length ≤ sz /\ k (.lst (cut xs (min a xs.length) (min b xs.length))) M := by
  show okE (match sIx xs.length 0 (.int a), sIx xs.length xs.length (.int b) with | some l, some h => zbn false (cut xs l h) M | _, _ => .bad) k ↔ _
  have e1 : sIx xs.length 0 (.int a) = some (min a xs.length) := by
    show some _ = _
    rw [if_neg (by omega)]; simp
  have e2 : sIx xs.length xs.length (.int b) = some (min b xs.length) := by
    show some _ = _
    rw [if_neg (by omega)]; simp
  rw [e1, e2]
  exact zce
theorem zw3 {xs : List D} {b : Nat} {M : Mem} {k : D -> Mem -> Prop} : okE (zb7 false (.frz xs) .non (.int b) M) k ↔ (cut xs 0 (min b xs.length)).length ≤ sz /\ k (.lst (cut xs 0 (min b xs.length))) M := by
  show okE (match sIx xs.length 0 D.non, sIx xs.length xs.length (.int b) with | some l, some h => zbn false (cut xs l h) M | _, _ => .bad) k ↔ _
  have e2 : sIx xs.length xs.length (.int b) = some (min b xs.length) := by
    show some _ = _
    rw [if_neg (by omega)]; simp
  rw [e2]
  exact zce
theorem zsp {α β : Type} (f : α -> β) (l : List α) (a b : Nat) : cut (l.map f) a b = (cut l a b).map f := by simp [cut, List.map_take, List.map_drop]
theorem zn5 {α : Type} (l : List α) (a b : Nat) : (cut l a b).length ≤ l.length := by simp [cut]; omega
section
variable {P : Nat -> Option Df} (h : zl4 P) {M : Mem}
include h
theorem zzd (n : Nat) {ns : List Int} (hn : ns.length ≤ 63) : okE (za0 P (n + 1) 29 [.frz (ns.map D.int)] []) fun d M' => d = .cell 1 /\ zbj M' 1 0 := by
  refine za8 h.law_open rfl ?_
  simp [zho, zcv]
  refine (zw3 (b := 12)).mpr ⟨?_, ?_⟩
  · exact zas (Nat.le_trans (zn5 _ _ _) (by simp; omega))
  simp only [zhj, zjm]
  refine ⟨zas (Nat.le_trans (zn5 _ _ _) (by simp; omega)), (zzm (a := 12) (b := 63)).mpr ⟨zas (Nat.le_trans (zn5 _ _ _) (by simp; omega)), ⟨rfl, rfl⟩, ?_⟩⟩
  rw [zsp, zsp]
  simp only [List.length_map, List.length_nil, List.nil_append]
  have e63 : min 63 ns.length = ns.length := by omega
  rw [e63]
  refine zeb (ds := zdw 0 ((cut ns (min 12 ns.length) ns.length).map D.int)) (fun i ρ M' => ∃ l : List Int, M' = [l.map D.int] /\ l.length = min 12 ns.length /\ ∃ a b, ρ = [some (.frz (ns.map D.int)), some (.cell 0), a, b]) (fun _ _ _ _ => rfl) ⟨cut ns 0 (min 12 ns.length), rfl, by simp [cut], none, none, rfl⟩ ?_ ?_
  · rintro i d ρ M' hd ⟨l, rfl, hl, a, b, rfl⟩
    rw [zf1, List.getElem?_map] at hd
    cases e : (cut ns (min 12 ns.length) ns.length)[i]? with
    | none => rw [e] at hd; cases hd
    | some x =>
      rw [e] at hd
      have hd : D.tup [.int ((0 + i : Nat) : Int), .int x] = d := Option.some.inj hd
      subst hd
      have hi := (List.getElem?_eq_some_iff.mp e).1
      have hlen : 12 < ns.length := by
        by_cases c : 12 < ns.length
        · exact c
        · have : min 12 ns.length = ns.length := by omega
          rw [this] at hi
          simp [cut] at hi
      have l12 : l.length = 12 := by omega
      have r1 := Int.emod_nonneg (i : Int) (show (12 : Int) ≠ 0 by decide)
      have r2 := Int.emod_lt_of_pos (i : Int) (show (0 : Int) < 12 by decide)
      obtain ⟨y, ey⟩ := zn1 (l := l) r1 (by rw [l12]; exact r2)
      obtain ⟨k, ek⟩ : ∃ k : Nat, (i : Int) % 12 = (k : Int) := ⟨((i : Int) % 12).toNat, by omega⟩
      refine ⟨_, rfl, ?_⟩
      simp
      rw [ek] at ey ⊢
      have hk : k < l.length := by omega
      refine ⟨_, ey, ?_⟩
      simp only [zh0]
      refine ⟨l.map D.int, rfl, k, ?_, l.set k (y + x), ?_, by simp [hl]⟩
      · simpa using ze4 hk
      · simp [List.map_set]
  · rintro ρ M' ⟨l, rfl, hl, a, b, rfl⟩
    simp
    exact ⟨by decide, ⟨0, l, 0, 0, rfl, rfl, by decide, by decide, by decide, by decide⟩⟩
end
end LD
namespace LD
open PySem
theorem Sub.keep {p : Nat} {M M' : Mem} (h : Sub M M') : zbr p M M' := ⟨h.len, fun k hk _ => h.at' k hk⟩
theorem Sub.pen {p B : Nat} {M M' : Mem} (h : Sub M M') (hp : zbj M p B) : zbj M' p B := by
  obtain ⟨c, cells, a, st, e1, e2, r⟩ := hp.ex
  exact ⟨c, cells, a, st, h.get e1, h.get e2, r⟩
theorem zlw (n : Nat) (l : List Nat) : zat (n + 1) (zau l) = true := by
  show (l.map nD).all (zat n) = true
  rw [List.all_eq_true]; intro x hx; obtain ⟨i, _, rfl⟩ := List.mem_map.mp hx; cases n <;> rfl
theorem zi4 (n : Nat) (l : List (List Nat)) : (l.map zau).all (zat (n + 1)) = true := by
  rw [List.all_eq_true]; intro x hx; obtain ⟨i, _, rfl⟩ := List.mem_map.mp hx; exact zlw n i
theorem zw4 {j a : Nat} {xs : List D} {M : Mem} {k : D -> Mem -> Prop} (e : M[j]? = some xs) : okE (zb7 false (.cell j) (.int a) .non M) k ↔ (xs.drop a).length ≤ sz /\ k (.lst (xs.drop a)) M := by
  have : zb7 false (.cell j) (.int a) .non M = zb7 false (.lst xs) (.int a) .non M := by simp [zb7, rdD, e]
  rw [this]; exact zpz
structure Has07 (P : Nat -> Option Df) : Prop where
  m : ziw P
  p : zl4 P
  h14 : P 14 = some ⟨2, 5, zn9⟩
  h15 : P 15 = some ⟨1, 6, zdc⟩
  h19 : P 19 = some ⟨2, 2, b_cost⟩
  h26 : P 26 = some ⟨3, 3, b_run⟩
  h27 : P 27 = some ⟨2, 2, zez⟩
  h46 : P 46 = some ⟨2, 2, ze9⟩
  h47 : P 47 = some ⟨2, 2, zph⟩
  right : P 36 = some ⟨3, 9, zrk⟩
  law : P 37 = some ⟨1, 9, b_law⟩
section
variable {P : Nat -> Option Df} (h : Has07 P) {M : Mem}
include h
end
end LD
namespace LD
open PySem
structure HasB (P : Nat -> Option Df) : Prop where
  after : P 41 = some ⟨2, 4, zg9⟩
  begins : P 42 = some ⟨1, 1, zgo⟩
structure HasS (P : Nat -> Option Df) : Prop extends HasB P where
  same : P 40 = some ⟨2, 2, zr6⟩
@[simp] theorem zx0 {m : Bool} {ds : List D} {M : Mem} {k : D -> Mem -> Prop} : okE (zex (.list m) [.tup ds] M) k ↔ okE (zbn m ds M) k := Iff.rfl
theorem zdd {x y : Str} {b : Bool} (e : eqD (.str x) (.str y) = some b) (M : Mem) : zb2 .eq (.str x) (.str y) M = some b := by
  show (match eqD (.str x) (.str y) with | some r => some r | none => _) = _
  rw [e]
theorem zt0 {m : zbc} {d : zbg} {s : List Nat} (hd : zcf m.words m.places d) (hs : zgg m s) : ze6 d s = s.set d.at' (zer d s) := by
  have a0 := zpo hd
  rw [List.set_eq_take_append_cons_drop, if_pos (by rw [hs.1]; exact a0)]
  simp [ze6]
theorem zeq {D0 : D} {nm w : Str} {A rest : GS} {ρ : Env} {M : Mem} {k : Fl -> Mem -> Prop} (h0 : ρ[0]? = some (some D0)) (e0 : zcp D0 (.int 0) M = some (.str nm)) (c : zb2 .eq (.str nm) (.str w) M = some false) (h : okE (rest ρ M) k) : okE (zad (zbh (zax (zbb .eq (za2 (zaa 0) (gC (.int 0))) (gC (.str w)))) A zai) rest ρ M) k := by
  simp [h0, e0, c, h]
theorem zk2 {D0 : D} {nm w : Str} {A rest : GS} {ρ : Env} {M : Mem} {k : Fl -> Mem -> Prop} (h0 : ρ[0]? = some (some D0)) (e0 : zcp D0 (.int 0) M = some (.str nm)) (c : zb2 .eq (.str nm) (.str w) M = some true) (h : okE (A ρ M) (zma rest k)) : okE (zad (zbh (zax (zbb .eq (za2 (zaa 0) (gC (.int 0))) (gC (.str w)))) A zai) rest ρ M) k := by
  simp [h0, e0, c, h]
section
variable {P : Nat -> Option Df} (h : HasS P) {M : Mem}
include h
end
section
variable {P : Nat -> Option Df} (h : HasB P) {M : Mem}
include h
set_option maxHeartbeats 2000000 in
theorem zih (n : Nat) {D0 : D} {nm : Str} {s : List Nat} {a : Nat} {v : Nat} (ha : a < s.length) (hz : s.length ≤ 100) (e0 : ∀ M, zcp D0 (.int 0) M = some (.str nm)) (e1 : ∀ M, zcp D0 (.int 1) M = some (nD a))
    (bT bJ bM bP : Bool) (cT : ∀ M, zb2 .eq (.str nm) (.str "turn") M = some bT) (cJ : ∀ M, zb2 .eq (.str nm) (.str "join") M = some bJ) (cM : ∀ M, zb2 .eq (.str nm) (.str "move") M = some bM) (cP : ∀ M, zb2 .eq (.str nm) (.str "put") M = some bP)
    (hb : (bT = true /\ bJ = false /\ bM = false /\ bP = false /\ ∀ M, ∃ t, zcp D0 (.int 2) M = some t /\ zcp t (nD (s.getD a 0)) M = some (nD v))
        \/ (bT = false /\ bJ = true /\ bM = false /\ bP = false /\ ∀ M, ∃ t u o, zcp D0 (.int 3) M = some t /\ zcp t (nD (s.getD a 0)) M = some u /\ zcp D0 (.int 2) M = some (nD o) /\ o < s.length /\ zcp u (nD (s.getD o 0)) M = some (nD v))
        \/ (bT = false /\ bJ = false /\ bM = true /\ bP = false /\ ∀ M, ∃ o, zcp D0 (.int 2) M = some (nD o) /\ o < s.length /\ v = s.getD o 0)
        \/ (bT = false /\ bJ = false /\ bM = false /\ bP = true /\ ∀ M, zcp D0 (.int 2) M = some (nD v))) :
    za0 P (n + 1) 41 [D0, zau s] M = .ok (zau (s.set a v)) (M ++ [(s.set a v).map nD]) := by
  refine zba (za8 h.after rfl ?_)
  have S : ∀ M i, i < s.length -> zcp (zau s) (nD i) M = some (nD (s.getD i 0)) := fun M i hi => zg4 hi
  have T : okE (zex (.list true) [zau s] M) (fun x M' => x = .cell M.length /\ M' = M ++ [s.map nD]) := by
    show okE (zex (.list true) [.tup (s.map nD)] M) _
    rw [zx0, zjm]
    exact ⟨zas (by simp; omega), rfl, rfl⟩
  simp only [zg9, zby, zda, zm3, zia, e_c, zcw, zdp, zcj, List.map_cons, List.map_nil, List.cons_append, List.nil_append, List.getElem?_cons_zero, List.getElem?_cons_succ, Option.getD_some, Option.some.injEq, exists_eq_left', zch]
  refine za9 T fun x M' hx => ?_
  obtain ⟨rfl, rfl⟩ := hx
  have q := S (M ++ [s.map nD]) a ha
  refine ⟨_, rfl, _, rfl, _, e1 _, _, q, ?_⟩
  have fin : ∀ ρ : Env, ρ[2]? = some (some (.cell M.length)) -> okE (zad (zay (za7 .tuple (zab (zaa 2) zah))) zai ρ ((M ++ [s.map nD]).set M.length ((s.map nD).set a (nD v)))) (zkv fun x M' => x = zau (s.set a v) /\ M' = M ++ [(s.set a v).map nD]) := fun ρ hρ => by
    simp [hρ]
    simp [zau, List.map_set]
  have gl : (M ++ [s.map nD])[M.length]? = some (s.map nD) := by simp
  have ix : ixN (s.map nD).length (a : Int) = some a := ze4 (by simpa using ha)
  rcases hb with ⟨rfl, rfl, rfl, rfl, hv⟩ | ⟨rfl, rfl, rfl, rfl, hv⟩ | ⟨rfl, rfl, rfl, rfl, hv⟩ | ⟨rfl, rfl, rfl, rfl, hv⟩
  · obtain ⟨t, v1, v2⟩ := hv (M ++ [s.map nD])
    refine zby.mp (zk2 rfl (e0 _) (cT _) ?_)
    simp only [zby, zml, zia, zcj, e_c]
    refine ⟨_, rfl, _, v1, _, rfl, _, v2, _, rfl, _, rfl, _, e1 _, _, _, _, _, rfl, rfl, gl, ix, ?_⟩
    exact zeq rfl (e0 _) (cJ _) (zeq rfl (e0 _) (cM _) (zeq rfl (e0 _) (cP _) (fin _ rfl)))
  · obtain ⟨t, u, o, v1, v2, v3, v4, v5⟩ := hv (M ++ [s.map nD])
    refine zby.mp (zeq rfl (e0 _) (cT _) (zk2 rfl (e0 _) (cJ _) ?_))
    simp only [zby, zml, zia, zcj, e_c]
    refine ⟨_, rfl, _, v1, _, rfl, _, v2, _, rfl, _, rfl, _, v3, _, S _ _ v4, _, v5, _, rfl, _, rfl, _, e1 _, _, _, _, _, rfl, rfl, gl, ix, ?_⟩
    exact zeq rfl (e0 _) (cM _) (zeq rfl (e0 _) (cP _) (fin _ rfl))
  · obtain ⟨o, v1, v2, v3⟩ := hv (M ++ [s.map nD])
    subst v3
    refine zby.mp (zeq rfl (e0 _) (cT _) (zeq rfl (e0 _) (cJ _) (zk2 rfl (e0 _) (cM _) ?_)))
    simp only [zby, zml, zia, zcj, e_c]
    refine ⟨_, rfl, _, rfl, _, v1, _, S _ _ v2, _, rfl, _, rfl, _, e1 _, _, _, _, _, rfl, rfl, gl, ix, ?_⟩
    exact zeq rfl (e0 _) (cP _) (fin _ rfl)
  · have v1 := hv (M ++ [s.map nD])
    refine zby.mp (zeq rfl (e0 _) (cT _) (zeq rfl (e0 _) (cJ _) (zeq rfl (e0 _) (cM _) (zk2 rfl (e0 _) (cP _) ?_))))
    simp only [zby, zml, zia, zcj, e_c]
    refine ⟨_, rfl, _, v1, _, rfl, _, rfl, _, e1 _, _, _, _, _, rfl, rfl, gl, ix, ?_⟩
    exact fin [some D0, some (zau s), some (.cell M.length), some (nD (s.getD a 0))] rfl
theorem zw2 (n : Nat) {m : zbc} {d : zbg} {s : List Nat} (hm : zb4 m) (hd : zcf m.words m.places d) (hs : zgg m s) : za0 P (n + 1) 41 [d.d, zau s] M = .ok (zau (ze6 d s)) (M ++ [(ze6 d s).map nD]) := by
  rw [zt0 hd hs]
  have l0 := hs.1
  have p2 := hm.p2
  have g : ∀ i, i < m.places -> s.getD i 0 < m.words := fun i hi => hs.2 _ (getD_mem (by omega))
  have nw := zmu hd hs
  have a0 := zpo hd
  have ha : d.at' < s.length := by omega
  cases d with
  | turn a t c => exact zih h n ha (by omega) (fun _ => rfl) (fun _ => rfl) true false false false (zdd (by decide +kernel)) (zdd (by decide +kernel)) (zdd (by decide +kernel)) (zdd (by decide +kernel)) (.inl ⟨rfl, rfl, rfl, rfl, fun M => ⟨zau t, rfl, zg4 (by rw [hd.2.1.1]; exact g _ hd.1)⟩⟩)
  | join a o t c =>
    refine zih h n ha (by omega) (fun _ => rfl) (fun _ => rfl) false true false false (zdd (by decide +kernel)) (zdd (by decide +kernel)) (zdd (by decide +kernel)) (zdd (by decide +kernel)) (.inr (.inl ⟨rfl, rfl, rfl, rfl, fun M => ⟨.tup (t.map zau), zau (t.getD (s.getD a 0) []), o, rfl, zv3 (by rw [hd.2.2.1.1]; exact g _ hd.1), rfl, by rw [l0]; exact hd.2.1, zg4 ?_⟩⟩))
    rw [(hd.2.2.1.2 _ (getD_mem (by rw [hd.2.2.1.1]; exact g _ hd.1))).1]
    exact g _ hd.2.1
  | move a o c => exact zih h n ha (by omega) (fun _ => rfl) (fun _ => rfl) false false true false (zdd (by decide +kernel)) (zdd (by decide +kernel)) (zdd (by decide +kernel)) (zdd (by decide +kernel)) (.inr (.inr (.inl ⟨rfl, rfl, rfl, rfl, fun M => ⟨o, rfl, by rw [l0]; exact hd.2.1, rfl⟩⟩)))
  | put a x c => exact zih h n ha (by omega) (fun _ => rfl) (fun _ => rfl) false false false true (zdd (by decide +kernel)) (zdd (by decide +kernel)) (zdd (by decide +kernel)) (zdd (by decide +kernel)) (.inr (.inr (.inr ⟨rfl, rfl, rfl, rfl, fun M => rfl⟩)))
theorem zur (n : Nat) {m : zbc} (hm : zb4 m) : za0 P (n + 1) 42 [m.d] M = .ok (.lst ((zcd m).map zau)) M := by
  refine zba (za8 h.begins rfl ?_)
  simp [zgo]
  have p1 := hm.p1
  have p2 := hm.p2
  have w2 := hm.w2
  have w4 := hm.w4
  refine ⟨_, rfl, ?_⟩
  have hp : m.places = 1 \/ m.places = 2 := by omega
  have hw : m.words = 2 \/ m.words = 3 \/ m.words = 4 := by omega
  rcases hp with ep | ep
  · refine .inr ⟨by rw [ep]; rfl, _, rfl, _, rfl, by omega, ?_⟩
    refine zhz (ds := (List.range m.words).map fun (k : Nat) => D.int (k : Int)) (fun d => .tup [d]) (zas (by simp; omega)) (by simp) (fun d hd => ⟨_, rfl, zba (by simp; exact zas (by omega))⟩) ⟨zas (by simp; omega), ?_, rfl⟩
    unfold zcd
    rw [ep]
    rcases hw with e | e | e <;> rw [e] <;> rfl
  · refine .inl ⟨by rw [ep]; rfl, _, rfl, _, rfl, ?_⟩
    simp
    refine ⟨by omega, ?_⟩
    have ew : ((m.words : Int) * (m.words : Int)).toNat = m.words * m.words := by rw [<- Int.natCast_mul]; rfl
    have hw2 : m.words * m.words ≤ 16 := Nat.mul_le_mul w4 w4
    rw [ew]
    refine ⟨⟨by rw [<- Int.natCast_mul]; omega, by rw [<- Int.natCast_mul]; omega⟩, ?_⟩
    have key : ∀ k : Nat, (zc2 (zab (zav false Bin.fdiv (zaa 0) (za2 (zaa 1) (gC (D.int 0)))) (zab (zav false Bin.mod (zaa 0) (za2 (zaa 1) (gC (D.int 0)))) zah))) [some (nD k), some m.d] M = .ok (zau [k / m.words, k % m.words]) M := by
      intro k
      refine zba ?_
      simp
      refine ⟨_, rfl, ?_⟩
      simp
      refine ⟨by omega, _, rfl, ?_⟩
      simp
      exact ⟨by omega, zas (by omega), rfl⟩
    refine comp_map (ds := (List.range (m.words * m.words)).map fun (k : Nat) => D.int (k : Int)) (fun i acc M' => M' = M /\ acc = ((List.range (m.words * m.words)).take i).map fun k => zau [k / m.words, k % m.words]) (zas (by simpa using by omega)) (fun _ _ _ _ => rfl) ⟨rfl, rfl⟩ ?_ ?_
    · rintro i d acc M' hd _ ⟨rfl, rfl⟩
      have hi := (List.getElem?_eq_some_iff.mp hd).1
      simp at hi
      have : d = nD i := by
        rw [List.getElem?_map, List.getElem?_range (by omega)] at hd
        exact (Option.some.inj hd).symm
      subst this
      refine ⟨_, rfl, ?_⟩
      rw [show List.set [none, some m.d] 0 (some (nD i)) = [some (nD i), some m.d] from rfl, key i]
      refine ⟨rfl, ?_⟩
      rw [List.take_succ, List.getElem?_range (by omega)]
      simp
    · rintro acc M' _ ⟨rfl, rfl⟩
      simp
      refine ⟨zas (by omega), ?_⟩
      unfold zcd
      rw [ep]
      rcases hw with e | e | e <;> rw [e] <;> rfl
end
end LD
namespace LD
open PySem
section
variable {ρ : Env} {M : Mem} {a b d : GE} {k : D -> Mem -> Prop} {kw : Walk -> Mem -> Prop} {kf : Fl -> Mem -> Prop}
@[simp] theorem w_zip3 : okE (zpn a b d ρ M) kw ↔ okE (a ρ M) fun x M => okE (b ρ M) fun y M => okE (d ρ M) fun z M => (zen x && zen y && zen z) = true /\ kw (zk1 x y z) M := by
  simp only [zpn, zbt]; refine iff_of_eq ?_; congr 1; funext x M; congr 1; funext y M; congr 1; funext z M; split <;> simp_all
@[simp] theorem e_rev {m : Bool} : okE (gRev m a ρ M) k ↔ okE (a ρ M) fun x M => okE (revD m x M) k := by simp [gRev]
@[simp] theorem rev_lst {m : Bool} {xs : List D} : okE (revD m (.lst xs) M) k ↔ okE (zbn m xs.reverse M) k := Iff.rfl
@[simp] theorem rev_tup {m : Bool} {xs : List D} : okE (revD m (.tup xs) M) k ↔ k (.tup xs.reverse) M := Iff.rfl
theorem zw7 {m : Bool} {q : Nat} {xs : List D} (e : M[q]? = some xs) : okE (revD m (.cell q) M) k ↔ okE (zbn m xs.reverse M) k := by
  show okE (match M[q]? with | some xs => zbn m xs.reverse M | none => .bad) k ↔ _
  rw [e]
@[simp] theorem s_par_ {i j : Nat} {gs : GA} : okE (sPar i j gs ρ M) kf ↔ okE (gs ρ M) fun ds M => ∃ a b, ds = [a, b] /\ kf (.next ((ρ.set i (some a)).set j (some b))) M := by
  simp only [sPar, zbt]; refine iff_of_eq ?_; congr 1; funext ds M
  match ds with
  | [] => simp
  | [_] => simp
  | [_, _] => simp; exact ⟨fun q => ⟨_, _, ⟨rfl, rfl⟩, q⟩, fun ⟨_, _, ⟨e1, e2⟩, q⟩ => by subst e1 e2; exact q⟩
  | _ :: _ :: _ :: _ => simp
@[simp] theorem zv6 : okE (gInt a ρ M) k ↔ okE (a ρ M) fun x M => (∃ i, x = .int i /\ k (.int i) M) \/ ∃ b, x = .bl b /\ k (.int (if b = true then 1 else 0)) M := by
  simp only [gInt, zbt]; refine iff_of_eq ?_; congr 1; funext x M; cases x <;> simp
theorem z0h {t : Tgt} {w : Walk} {gb : GS} {ds : List D} (I : Nat -> Env -> Mem -> Prop) (R : D -> Mem -> Prop) (hw : ∀ i ρ M, I i ρ M -> w M = some ds) (hwR : ∀ d M, R d M -> w M = some ds) (h0 : I 0 ρ M)
    (hs : ∀ i d ρ M, ds[i]? = some d -> I i ρ M -> ∃ ρ1, zc1 t d ρ = some ρ1 /\ okE (gb ρ1 M) fun fl M => (∃ ρ', fl = .next ρ' /\ I (i + 1) ρ' M) \/ ∃ d, fl = .ret d /\ R d M) (hk : ∀ ρ M, I ds.length ρ M -> kf (.next ρ) M) (hr : ∀ d M, R d M -> kf (.ret d) M) :
    okE (zdu (zgv t gb) w (.next ρ) M) kf := by
  refine zhe (fun i fl M => (∃ ρ, fl = .next ρ /\ I i ρ M) \/ ∃ d, fl = .ret d /\ R d M) (fun i fl M h => h.elim (fun ⟨ρ, _, h⟩ => hw i ρ M h) fun ⟨d, _, h⟩ => hwR d M h) (.inl ⟨ρ, rfl, h0⟩) ?_ ?_
  · rintro i d fl M hd (⟨ρ, rfl, hI⟩ | ⟨d', rfl, hR⟩)
    · obtain ⟨ρ1, e, h⟩ := hs i d ρ M hd hI
      simp only [zgv, zbt, zis, e]
      exact ⟨ρ1, rfl, h⟩
    · exact .inr ⟨d', rfl, hR⟩
  · rintro fl M (⟨ρ, rfl, hI⟩ | ⟨d, rfl, hR⟩)
    · exact hk ρ M hI
    · exact hr d M hR
end
theorem beq_nn (i j : Nat) : zb1 (nD i) (nD j) = decide (i = j) := by
  show ((i : Int) == (j : Int)) = _
  rw [Bool.eq_iff_iff]; simp; omega
theorem zky : ∀ l r : List Nat, zh5 (l.map nD) (r.map nD) = decide (l = r)
  | [], [] => rfl
  | [], _ :: _ => rfl
  | _ :: _, [] => rfl
  | i :: l, j :: r => by
    show (zb1 (nD i) (nD j) && zh5 (l.map nD) (r.map nD)) = _
    rw [beq_nn, zky l r, Bool.eq_iff_iff]; simp
theorem zwi (l r : List Nat) : zb1 (zau l) (zau r) = decide (l = r) := zky l r
theorem zrh : ∀ l r : List (List Nat), zh5 (l.map zau) (r.map zau) = decide (l = r)
  | [], [] => rfl
  | [], _ :: _ => rfl
  | _ :: _, [] => rfl
  | i :: l, j :: r => by
    show (zb1 (zau i) (zau j) && zh5 (l.map zau) (r.map zau)) = _
    rw [zwi, zrh l r, Bool.eq_iff_iff]; simp
theorem zgr (n : Nat) (l : List Nat) : zat (n + 1) (.lst (l.map nD)) = true := by
  show (l.map nD).all (zat n) = true
  rw [List.all_eq_true]; intro x hx; obtain ⟨i, _, rfl⟩ := List.mem_map.mp hx; cases n <;> rfl
theorem zrg {l r : List Nat} {M : Mem} : zb2 .ne (zau l) (zau r) M = some (!decide (l = r)) := zhl (zlw 63 l) (zlw 63 r) (zwi l r)
theorem zot {l r : List (List Nat)} {M : Mem} : zb2 .eq (.tup (l.map zau)) (.tup (r.map zau)) M = some (decide (l = r)) := zn7 (zi4 62 l) (zi4 62 r) (zrh l r)
theorem zwf {l r : List (List Nat)} {M : Mem} : zb2 .ne (.tup (l.map zau)) (.tup (r.map zau)) M = some (!decide (l = r)) := zhl (zi4 62 l) (zi4 62 r) (zrh l r)
theorem zwg {l r : List Nat} {M : Mem} : zb2 .ne (.lst (l.map nD)) (.lst (r.map nD)) M = some (!decide (l = r)) := zhl (zgr 63 l) (zgr 63 r) (zky l r)
theorem zwh {l r : List Nat} {M : Mem} : zb2 .eq (.lst (l.map nD)) (.lst (r.map nD)) M = some (decide (l = r)) := zn7 (zgr 63 l) (zgr 63 r) (zky l r)
def ends (m : zbc) (r : List Nat) : List (List Nat) := (zcd m).map (zcg m r)
theorem zoz (m : zbc) (r : List Nat) : zji m r = .tup ((ends m r).map zau) := by simp [zji, ends, Function.comp_def]
section
variable {P : Nat -> Option Df} (h : HasB P) {M : Mem}
include h
theorem zrr (he : P 44 = some ⟨2, 5, zd9⟩) (n : Nat) {m : zbc} {x : D} {r : List Nat} (hx : zbk M x r) (hm : zb4 m) (hr : ∀ i ∈ r, i < m.deeds.length) : okE (za0 P (n + 2) 44 [m.d, x] M) fun d M' => d = .tup ((ends m r).map zau) /\ Sub M M' := by
  have bb := zur h n (M := M ++ [[]]) hm
  have bl := zri hm
  refine za8 he rfl ?_
  simp [zd9, bb]
  refine ⟨rfl, ?_⟩
  generalize hq : M.length = q
  refine zeb (ds := (zcd m).map zau) (fun i ρ M' => M'[q]? = some (((zcd m).take i).map fun s => zau (zcg m r s)) /\ Sub M M' /\ q < M'.length /\ ∃ x3 x4, ρ = [some m.d, some x, some (.cell q), x3, x4]) (fun _ _ _ _ => rfl) ⟨by subst hq; simp, Sub.app, by subst hq; simp, none, none, rfl⟩ ?_ ?_
  · rintro i d ρ M' hd ⟨e4, S4, hql, x3, x4, rfl⟩
    rw [List.getElem?_map] at hd
    cases e : (zcd m)[i]? with
    | none => rw [e] at hd; cases hd
    | some s =>
      rw [e] at hd
      cases Option.some.inj hd
      have hi := (List.getElem?_eq_some_iff.mp e).1
      have hs := zn8 s (List.mem_of_getElem? e)
      refine ⟨_, rfl, ?_⟩
      simp [hx.is]
      refine zeb (ds := r.map nD) (fun j ρ M2 => M2[q]? = some (((zcd m).take i).map fun s => zau (zcg m r s)) /\ Sub M M2 /\ q < M2.length /\ ∃ x4, ρ = [some m.d, some x, some (.cell q), some (zau (zcg m (r.take j) s)), x4]) (fun _ _ _ e => (hx.sub e.2.1).seq) ⟨e4, S4, hql, x4, rfl⟩ ?_ ?_
      · rintro j dd ρ M2 hj ⟨f4, T4, ql2, y4, rfl⟩
        rw [List.getElem?_map] at hj
        cases ej : r[j]? with
        | none => rw [ej] at hj; cases hj
        | some k =>
          rw [ej] at hj
          cases Option.some.inj hj
          have hk := hr k (List.mem_of_getElem? ej)
          have hst : zgg m (zcg m (r.take j) s) := zk8 hm (fun x hx => hr x (List.mem_of_mem_take hx)) hs
          have af := zw2 h n (M := M2) hm (zju hm hk) hst
          refine ⟨_, rfl, ?_⟩
          simp [-zgu, md2, zq2 hk, af]
          exact ⟨by rw [List.getElem?_append_left ql2, f4, List.map_take], T4.trans Sub.app, by omega, by rw [List.take_succ, ej]; simp [zhk, zcg]⟩
      · rintro ρ M2 ⟨f4, T4, ql2, y4, rfl⟩
        simp [f4]
        exact ⟨Nat.lt_of_le_of_lt (show _ ≤ 50 by omega) (by decide), by rw [List.getElem?_set_self ql2, List.take_succ]; simp [e], T4.setq (by omega), ql2⟩
  · rintro ρ M' ⟨e4, S4, hql, x3, x4, rfl⟩
    rw [List.length_map, List.take_length] at e4
    simp [e4, ends, Function.comp_def, S4]
theorem zpv (he : P 44 = some ⟨2, 5, zd9⟩) (n : Nat) {m : zbc} {r : List Nat} (hm : zb4 m) (hr : ∀ i ∈ r, i < m.deeds.length) : okE (za0 P (n + 2) 44 [m.d, .lst (r.map nD)] M) fun d M' => d = .tup ((ends m r).map zau) /\ Sub M M' := zrr h he n .l hm hr
end
def zhu (m : zbc) (a b : List Nat) : Option (List Nat) := (zcd m).find? fun s => !decide (zcg m a s = zcg m b s)
def optD : Option (List Nat) -> D
  | some s => zau s
  | none => .non
theorem zln {α : Type} (f g e : α -> D) : ∀ l : List α, zf7 (l.map f) (l.map g) (l.map e) = l.map fun s => .tup [f s, g s, e s]
  | [] => rfl
  | a :: l => by simp [zf7, zln f g e l]
theorem zvh {m : zbc} {a b : List Nat} {i : Nat} {s : List Nat} (hi : (zcd m)[i]? = some s) (h : ∀ t ∈ (zcd m).take i, zcg m a t = zcg m b t) (hs : zcg m a s ≠ zcg m b s) : zhu m a b = some s := by
  have e : zcd m = (zcd m).take i ++ s :: (zcd m).drop (i + 1) := by
    obtain ⟨h1, h2⟩ := List.getElem?_eq_some_iff.mp hi
    rw [<- h2, <- List.drop_eq_getElem_cons h1, List.take_append_drop]
  unfold zhu
  rw [e, List.find?_append]
  have : ((zcd m).take i).find? (fun s => !decide (zcg m a s = zcg m b s)) = none := by
    rw [List.find?_eq_none]; intro t ht; simp [h t ht]
  rw [this]
  simp [List.find?_cons, hs]
theorem zvg {m : zbc} {a b : List Nat} (h : ∀ t ∈ zcd m, zcg m a t = zcg m b t) : zhu m a b = none := by
  unfold zhu
  rw [List.find?_eq_none]; intro t ht; simp [h t ht]
theorem zgi {m : zbc} {a b : List Nat} : zhu m a b = none ↔ ends m a = ends m b := by
  unfold zhu ends
  rw [List.find?_eq_none, List.map_inj_left]
  simp
structure HasA (P : Nat -> Option Df) : Prop where
  h15 : P 15 = some ⟨1, 6, zdc⟩
  h27 : P 27 = some ⟨2, 2, zez⟩
  h46 : P 46 = some ⟨2, 2, ze9⟩
  parted : P 48 = some ⟨3, 8, zkb⟩
section
variable {P : Nat -> Option Df} {M : Mem}
theorem zgy (h : ziw P) (ha : HasA P) (n : Nat) {m : zbc} {x y : D} {a b : List Nat} (hx : zbk M x a) (hy : zbk M y b) (hm : zb4 m) (h1 : zb3 m a) (h2 : zb3 m b) : okE (za0 P (n + 12) 48 [m.d, x, y] M) fun d M' => d = optD (zhu m a b) /\ Sub M M' := by
  have b1 := ziz h ha.h15 ha.h27 ha.h46 n hx hm h1
  have b2 := ziz h ha.h15 ha.h27 ha.h46 n (hy.sub (Sub.app (X := (zcd m).map fun s => (zeo m a s).map zau))) hm h2
  generalize hM2 : (M ++ (zcd m).map fun s => (zeo m a s).map zau) ++ ((zcd m).map fun s => (zeo m b s).map zau) = M2 at b2
  have S2 : Sub M M2 := by subst hM2; rw [List.append_assoc]; exact Sub.app
  have bb := zr9 h ha.h15 (n + 2) (M := M2) hm
  refine za8 ha.parted rfl ?_
  simp [zkb, b1, b2, bb, zen]
  refine ⟨⟨rfl, rfl⟩, ?_⟩
  refine z0h (ds := (zcd m).map fun s => .tup [zau s, zau (zcg m a s), zau (zcg m b s)]) (fun i ρ M' => (∀ t ∈ (zcd m).take i, zcg m a t = zcg m b t) /\ Sub M M' /\ ∃ x5 x6 x7, ρ = [some m.d, some x, some y, some (zji m a), some (zji m b), x5, x6, x7]) (fun d M' => d = optD (zhu m a b) /\ Sub M M') ?_ ?_ ⟨by simp, S2, none, none, none, rfl⟩ ?_ ?_ ?_
  · rintro i ρ M' _
    simp [zk1, zcm, zji, zln]
  · rintro d M' _
    simp [zk1, zcm, zji, zln]
  · rintro i d ρ M' hd ⟨hp, S', x5, x6, x7, rfl⟩
    rw [List.getElem?_map] at hd
    cases e : (zcd m)[i]? with
    | none => rw [e] at hd; cases hd
    | some s =>
      rw [e] at hd
      cases Option.some.inj hd
      refine ⟨_, rfl, ?_⟩
      by_cases c : zcg m a s = zcg m b s
      · simp [zrg, c]
        refine ⟨?_, S'⟩
        intro t ht
        rw [List.take_succ, e] at ht
        rcases List.mem_append.mp ht with z | z
        · exact hp t z
        · simp at z; subst z; exact c
      · simp [zrg, c]
        exact ⟨by rw [zvh e hp c]; rfl, S'⟩
  · rintro ρ M' ⟨hp, S', x5, x6, x7, rfl⟩
    simp at hp ⊢
    exact ⟨by rw [zvg (by simpa [List.take_of_length_le] using hp)]; rfl, S'⟩
  · rintro d M' ⟨rfl, S'⟩
    simp [S']
end
end LD
namespace LD
open PySem
theorem Sub.to {p : Nat} {M M1 M' : Mem} (k : zbr p M M1) (h : Sub M1 M') : zbr p M M' := k.trans h.keep
theorem zsa {xs : List D} {a : Nat} {M : Mem} {k : D -> Mem -> Prop} : okE (zb7 false (.lst xs) .non (nD a) M) k ↔ (xs.take a).length ≤ sz /\ k (.lst (xs.take a)) M := zmf
def pairD (p : List Nat × List Nat) : D := .tup [.lst (p.1.map nD), .lst (p.2.map nD)]
structure znc (m : zbc) (k : Nat) (p : List Nat × List Nat) : Prop where
  r1 : zb3 m p.1
  r2 : zb3 m p.2
  l1 : p.1.length ≤ k
  l2 : p.2.length ≤ k
  al : ends m p.1 = ends m p.2
def zlf (m : zbc) (k : Nat) (prs : List (List Nat × List Nat)) : Prop := ∀ pr ∈ prs, znc m k pr
section
variable {P : Nat -> Option Df} (hp_ : zl4 P) (hs_ : HasB P) (he : P 44 = some ⟨2, 5, zd9⟩) (hal : P 49 = some ⟨2, 7, zcy⟩) {M : Mem}
include hp_ hs_ he hal
theorem zw1 (n : Nat) {p B : Nat} {m : zbc} (hm : zb4 m) (hp : zbj M p B) (hB : B ≤ 600000) : okE (za0 P (n + 4) 49 [.cell p, m.d] M) fun d M' => ∃ q prs, d = .cell q /\ M.length ≤ q /\ M'[q]? = some (prs.map pairD) /\ prs ≠ [] /\ prs.length ≤ 200 /\ zlf m 3 prs /\ zbj M' p (B + 450) /\ zbr p M M' := by
  refine za8 hal rfl ?_
  have d1 := hm.d1
  simp only [zcy, zby, zda, zib, zq8, zl9, e_c]
  refine ⟨9, rfl, by decide, ?_⟩
  refine comp_map (ds := (List.range 9).map fun (k : Nat) => D.int (k : Int)) (fun i acc M' => ∃ rs : List (List Nat), acc = rs.map zep /\ rs.length = i /\ (∀ r ∈ rs, zb3 m r /\ r.length ≤ 3) /\ zbj M' p (B + i * 50) /\ zbr p M M') (zas (by simp)) (fun _ _ _ _ => rfl) ⟨[], rfl, rfl, by simp, by simpa using hp, .refl⟩ ?_ ?_
  · rintro i d acc M' hd _ ⟨rs, rfl, hl, hr, hp', hk'⟩
    have hi : i < 9 := by
      have := (List.getElem?_eq_some_iff.mp hd).1
      simpa using this
    refine ⟨_, rfl, ?_⟩
    simp
    refine za9 (znh hp_ n (mo := 3) hm hp' (by omega) (by decide)) fun d M5 ⟨one, e1, h1, l1, q5, k5⟩ => ?_
    subst e1
    refine ⟨rs ++ [one], by simp [zep], by simp [hl], fun r hr' => ?_, q5.mono (by omega), hk'.trans k5⟩
    rcases List.mem_append.mp hr' with z | z
    · exact hr r z
    · simp at z; subst z; exact ⟨h1, l1⟩
  · rintro acc M1 _ ⟨rs, rfl, hl, hr, p1, k1⟩
    simp at hl p1
    simp only [zce]
    refine ⟨zas (by simp; omega), ?_⟩
    simp
    have szr : ∀ r : List Nat, r.length ≤ 41 -> (r.map nD).length ≤ sz := fun r h => zas (by simp; omega)
    refine ⟨zas (by omega), zas (by omega), zas (by omega), ?_⟩
    let some_ : List (List Nat) := rs ++ [[], [0]]
    have es : rs.map zep ++ [D.lst [], D.lst [D.int 0]] = some_.map zep := by simp [some_, zep]
    rw [es]
    have hsome : ∀ r ∈ some_, zb3 m r /\ r.length ≤ 3 := by
      intro r hr'
      simp only [some_, List.mem_append, List.mem_cons, List.not_mem_nil, or_false] at hr'
      rcases hr' with z | z | z
      · exact hr r z
      · subst z; exact ⟨⟨by simp, fun i hi => by cases hi⟩, by simp⟩
      · subst z; exact ⟨⟨by simp, fun i hi => by simp at hi; omega⟩, by simp⟩
    have lsome : some_.length = 11 := by simp [some_, hl]
    obtain ⟨r0, rr, er⟩ : ∃ r0 rr, some_ = r0 :: rr := by
      cases q : some_ with
      | nil => rw [q] at lsome; cases lsome
      | cons a b => exact ⟨a, b, rfl⟩
    have h0 := hsome r0 (by rw [er]; exact List.mem_cons_self)
    have i0 : ((ixN (rs.length + 2) 0).bind fun j => (List.map zep some_)[j]?) = some (zep r0) := by
      rw [er]
      show ((ixN (rs.length + 2) ((0 : Nat) : Int)).bind _) = _
      rw [ze4 (by omega)]; rfl
    refine ⟨zep r0, i0, zep r0, i0, ?_⟩
    show okE (zex (.list false) [.lst (r0.map nD)] M1) _
    rw [zhj, zce]
    refine ⟨szr r0 (by omega), zas (by omega), zas (by omega), ⟨rfl, rfl⟩, ?_⟩
    generalize hq : M1.length = q
    have pq : p < q := by have := p1.lt; omega
    refine zeb (ds := zdw 0 (some_.map zep)) (fun i ρ M' => (∃ prs, M'[q]? = some (prs.map pairD) /\ prs ≠ [] /\ prs.length ≤ 1 + i * 11 /\ zlf m 3 prs) /\ zbj M' p (B + 450) /\ zbr p M M' /\ ∃ x4 x5 x6, ρ = [some (.cell p), some m.d, some (.lst (some_.map zep)), some (.cell q), x4, x5, x6]) (fun _ _ _ _ => rfl) ?_ ?_ ?_
    · refine ⟨⟨[(r0, r0)], ?_, by simp, by simp, ?_⟩, (p1.mono (by omega)).app, k1.trans .app, none, none, none, rfl⟩
      · subst hq; simp [pairD, zep]
      · intro pr hpr
        simp at hpr; subst hpr
        exact ⟨h0.1, h0.1, h0.2, h0.2, rfl⟩
    · rintro i d ρ M' hd ⟨⟨prs, e1, e2, e3, e4⟩, p2, k2, x4, x5, x6, rfl⟩
      rw [zf1, List.getElem?_map] at hd
      cases eo : some_[i]? with
      | none => rw [eo] at hd; cases hd
      | some one =>
        rw [eo] at hd
        have hd : D.tup [.int ((0 + i : Nat) : Int), zep one] = d := Option.some.inj hd
        subst hd
        have hi : i < 11 := by rw [<- lsome]; exact (List.getElem?_eq_some_iff.mp eo).1
        have ho := hsome one (List.mem_of_getElem? eo)
        refine ⟨_, rfl, ?_⟩
        rw [Nat.zero_add]
        simp
        refine ⟨rfl, rfl, zmf.mpr ⟨zas (by simp; omega), rfl, ?_⟩⟩
        rw [<- List.map_take]
        refine zeb (ds := (some_.take i).map zep) (fun j ρ M' => (∃ prs, M'[q]? = some (prs.map pairD) /\ prs ≠ [] /\ prs.length ≤ 1 + i * 11 + j /\ zlf m 3 prs) /\ zbj M' p (B + 450) /\ zbr p M M' /\ ∃ x6, ρ = [some (.cell p), some m.d, some (.lst (some_.map zep)), some (.cell q), some (nD i), some (zep one), x6]) (fun _ _ _ _ => rfl) ⟨⟨prs, e1, e2, e3, e4⟩, p2, k2, x6, rfl⟩ ?_ ?_
        · rintro j d ρ M3 hd ⟨⟨prs, e1, e2, e3, e4⟩, p3, k3, y6, rfl⟩
          rw [List.getElem?_map] at hd
          cases eo2 : (some_.take i)[j]? with
          | none => rw [eo2] at hd; cases hd
          | some other =>
            rw [eo2] at hd
            cases Option.some.inj hd
            have hj : j < i := by
              have := (List.getElem?_eq_some_iff.mp eo2).1
              simp at this; omega
            have h2 := hsome other (List.mem_of_mem_take (List.mem_of_getElem? eo2))
            refine ⟨_, rfl, ?_⟩
            have cne : zb2 .ne (zep one) (zep other) M3 = some (!decide (one = other)) := zwg
            simp [cne]
            by_cases c : one = other
            · exact .inl ⟨c, ⟨prs, e1, e2, by omega, e4⟩, p3, k3⟩
            · refine .inr ⟨c, ?_⟩
              refine za9 (zpv hs_ he (n + 1) (M := M3) hm ho.1.2) fun d M4 ⟨ed, S4⟩ => ?_
              subst ed
              refine za9 (zpv hs_ he (n + 1) (M := M4) hm h2.1.2) fun d M5 ⟨ed, S5⟩ => ?_
              subst ed
              have S := S4.trans S5
              have e5 : M5[q]? = some (prs.map pairD) := S.get e1
              by_cases c2 : ends m one = ends m other
              · refine .inr ⟨by rw [zot, c2]; simp, ?_⟩
                show okE (zex (.list false) [.lst (other.map nD)] M5) _
                rw [zhj, zce]
                refine ⟨szr other (by omega), zas (by omega), _, e5, ?_, ⟨prs ++ [(one, other)], ?_, by simp, by simp; omega, fun pr hpr => ?_⟩, (S.pen p3).setq pq, (S.to k3).setq ?_⟩
                · exact Nat.lt_of_le_of_lt (show _ ≤ 1000 by simp; omega) (by decide)
                · rw [List.getElem?_set_self (List.getElem?_eq_some_iff.mp e5).1]; simp [pairD, zep]
                · rcases List.mem_append.mp hpr with z | z
                  · exact e4 pr z
                  · simp at z; subst z
                    exact ⟨ho.1, h2.1, ho.2, h2.2, c2⟩
                · have := k1.len; omega
              · exact .inl ⟨by rw [zot]; simp [c2], ⟨prs, e5, e2, by omega, e4⟩, S.pen p3, S.to k3⟩
        · rintro ρ M3 ⟨⟨prs, e1, e2, e3, e4⟩, p3, k3, y6, rfl⟩
          simp
          refine ⟨⟨prs, e1, e2, ?_, e4⟩, p3, k3⟩
          simp at e3; omega
    · rintro ρ M3 ⟨⟨prs, e1, e2, e3, e4⟩, p3, k3, x4, x5, x6, rfl⟩
      simp
      refine ⟨by have := k1.len; omega, prs, e1, e2, ?_, e4, p3, k3⟩
      have : (zdw 0 (some_.map zep)).length = 11 := by rw [zg5]; simpa using lsome
      rw [this] at e3; omega
end
end LD
namespace LD
open PySem
abbrev zcn := List Nat × List Nat
structure Stp where
  place : Nat
  num : Nat
  back : Bool
def Stp.d (s : Stp) : D := .tup [nD s.place, nD s.num, .bl s.back]
def zcn.way (r : zcn) (b : Bool) : zcn := if b then (r.2, r.1) else r
def zdb (row : List Nat) (p : Nat) (g t : List Nat) : List Nat := row.take p ++ t ++ row.drop (p + g.length)
def zb0 (rules : List zcn) (row : List Nat) (s : Stp) : Option (List Nat) :=
  if s.place ≤ row.length /\ s.num < rules.length then
    let r := zcn.way (rules.getD s.num ([], [])) s.back
    if (row.drop s.place).take r.1.length = r.1 then
      let made := zdb row s.place r.1 r.2
      if made.length ≤ 40 then some made else none
    else none
  else none
def zcb (rules : List zcn) : List Stp -> List Nat -> Option (List Nat)
  | [], row => some row
  | s :: r, row => (zb0 rules row s).bind (zcb rules r)
theorem zfq (rules : List zcn) : ∀ (a b : List Stp) (row : List Nat), zcb rules (a ++ b) row = (zcb rules a row).bind (zcb rules b)
  | [], b, row => rfl
  | s :: r, b, row => by
    show (zb0 rules row s).bind (zcb rules (r ++ b)) = ((zb0 rules row s).bind (zcb rules r)).bind (zcb rules b)
    cases zb0 rules row s with
    | none => rfl
    | some x => exact zfq rules r b x
structure zec (m : zbc) (rules : List zcn) : Prop where
  ok : zlf m 3 rules
  len : rules.length ≤ 10
theorem zec.at {m : zbc} {rules : List zcn} (h : zec m rules) {i : Nat} (hi : i < rules.length) : znc m 3 (rules.getD i ([], [])) := h.ok _ (getD_mem hi)
theorem zki {m : zbc} {k : Nat} {p : zcn} (h : znc m k p) (b : Bool) : znc m k (p.way b) := by
  cases b
  · exact h
  · exact ⟨h.r2, h.r1, h.l2, h.l1, h.al.symm⟩
theorem ziy {m : zbc} {rules : List zcn} {row made : List Nat} {s : Stp} (hR : zec m rules) (hr : zb3 m row) (e : zb0 rules row s = some made) : zb3 m made := by
  unfold zb0 at e
  split at e
  · next c =>
    dsimp only at e
    split at e
    · split at e
      · next c2 =>
        cases e
        refine ⟨c2, fun i hi => ?_⟩
        have w := zki (hR.at c.2) s.back
        simp only [zdb, List.mem_append] at hi
        rcases hi with (z | z) | z
        · exact hr.2 i (List.mem_of_mem_take z)
        · exact w.r2.2 i z
        · exact hr.2 i (List.mem_of_mem_drop z)
      · cases e
    · cases e
  · cases e
theorem zl1 {m : zbc} {a b x y : List Nat} (hm : zb4 m) (hx : ∀ i ∈ x, i < m.deeds.length) (h : ends m a = ends m b) : ends m (x ++ a ++ y) = ends m (x ++ b ++ y) := by
  unfold ends at h ⊢
  rw [List.map_inj_left] at h ⊢
  intro s hs
  have hs' := zk8 hm hx (zn8 s hs)
  have mem : zcg m x s ∈ zcd m := zyg hm hs'
  rw [zhk, zhk, zhk, zhk, h _ mem]
theorem zrp {m : zbc} {rules : List zcn} {row made : List Nat} {s : Stp} (hm : zb4 m) (hR : zec m rules) (hr : zb3 m row) (e : zb0 rules row s = some made) : ends m made = ends m row := by
  unfold zb0 at e
  split at e
  · next c =>
    dsimp only at e
    split at e
    · next c1 =>
      split at e
      · cases e
        have w := zki (hR.at c.2) s.back
        have er : row = row.take s.place ++ ((rules.getD s.num ([], [])).way s.back).1 ++ row.drop (s.place + ((rules.getD s.num ([], [])).way s.back).1.length) := by
          conv => lhs; rw [<- List.take_append_drop s.place row, <- List.take_append_drop ((rules.getD s.num ([], [])).way s.back).1.length (row.drop s.place), c1, List.drop_drop]
          rw [List.append_assoc]
        conv => rhs; rw [er]
        unfold zdb
        exact zl1 hm (fun i hi => hr.2 i (List.mem_of_mem_take hi)) w.al.symm
      · cases e
    · cases e
  · cases e
theorem zjw {m : zbc} {rules : List zcn} (hm : zb4 m) (hR : zec m rules) : ∀ (ss : List Stp) {row made : List Nat}, zb3 m row -> zcb rules ss row = some made -> zb3 m made /\ ends m made = ends m row
  | [], row, made, hr, e => by cases e; exact ⟨hr, rfl⟩
  | s :: r, row, made, hr, e => by
    have e : (zb0 rules row s).bind (zcb rules r) = some made := e
    cases q : zb0 rules row s with
    | none => rw [q] at e; cases e
    | some x =>
      rw [q] at e
      obtain ⟨h1, h2⟩ := zjw hm hR r (ziy hR hr q) e
      exact ⟨h1, h2.trans (zrp hm hR hr q)⟩
end LD
namespace LD
open PySem
theorem zwb {tg : Tgt} {w : Walk} {gc : GT} {ge : GE} {ds : List D} {ρ0 : Env} {M : Mem} {kl : List D -> Mem -> Prop} (f : D -> Bool) (g : D -> D) (hz : ds.length ≤ sz) (hw : w M = some ds)
    (hs : ∀ d ∈ ds, ∃ ρ1, zc1 tg d ρ0 = some ρ1 /\ gc ρ1 M = .ok (f d) M /\ (f d = true -> ge ρ1 M = .ok (g d) M)) (hk : kl ((ds.filter f).map g) M) : okE (zdu (zdv tg (gIf gc (zb8 ge)) ρ0) w [] M) kl := by
  refine zhe (fun i acc M' => M' = M /\ acc = ((ds.take i).filter f).map g) (fun i acc M' h => by rw [h.1]; exact hw) ⟨rfl, rfl⟩ ?_ ?_
  · rintro i d acc M' hd ⟨rfl, rfl⟩
    obtain ⟨ρ1, e1, e2, e3⟩ := hs d (List.mem_of_getElem? hd)
    have hi : i < ds.length := (List.getElem?_eq_some_iff.mp hd).1
    simp only [zdv, e1, zxt, Res.bind_ok, gIf, e2]
    rw [List.take_succ, hd]
    cases q : f d with
    | false =>
      simp [q]
    | true =>
      rw [if_pos rfl]
      have len : (((ds.take i).filter f).map g).length ≤ i := by
        rw [List.length_map]
        exact Nat.le_trans (List.length_filter_le _ _) (by simp; omega)
      simp only [zb8, e3 q, Res.bind_ok]
      rw [if_pos (by omega)]
      simp [q]
  · rintro acc M' ⟨rfl, rfl⟩
    simpa using hk
def zha (M : Mem) (x : D) (p : zcn) : Prop := ∃ y z, x = .tup [y, z] /\ zbk M y p.1 /\ zbk M z p.2
theorem zha.l {M : Mem} {p : zcn} : zha M (pairD p) p := ⟨_, _, rfl, .l, .l⟩
theorem zha.sub {M M' : Mem} {x : D} {p : zcn} (h : zha M x p) (s : Sub M M') : zha M' x p := let ⟨y, z, e, a, b⟩ := h; ⟨y, z, e, a.sub s, b.sub s⟩
structure HasR (P : Nat -> Option Df) : Prop where
  is_row : P 52 = some ⟨2, 2, zkd⟩
  is_rule : P 53 = some ⟨2, 4, zjc⟩
  need_rules : P 54 = some ⟨2, 4, zg6⟩
  behind : P 55 = some ⟨3, 10, zgk⟩
  stepped : P 56 = some ⟨4, 8, zi9⟩
  copied : P 57 = some ⟨1, 1, zgn⟩
section
variable {P : Nat -> Option Df} (h : ziw P) (ha : HasA P) (hr_ : HasR P) {M : Mem}
include h hr_
theorem zpw (n : Nat) {m : zbc} {x : D} {r : List Nat} (hx : zbk M x r) (hm : zb4 m) (hr : zb3 m r) : za0 P (n + 10) 52 [m.d, x] M = .ok (.bl true) M := by
  refine zba (za8 hr_.is_row rfl ?_)
  simp [zkd, zkk h n hx hm hr]
include ha
theorem zuo (n : Nat) {m : zbc} {x : D} {p : zcn} {k : Nat} (hx : zha M x p) (hm : zb4 m) (hp : zb3 m p.1 /\ zb3 m p.2 /\ ends m p.1 = ends m p.2) : okE (za0 P (n + 13) 53 [m.d, x] M) fun d M' => d = .bl true /\ Sub M M' := by
  obtain ⟨y, z, rfl, hy, hz⟩ := hx
  refine za8 hr_.is_rule rfl ?_
  have t2 : za0 P (n + 12) 4 [.int 2, .tup [y, z]] M = .ok (.bl true) M := by
    refine zba (za8 h.is_tuple_of rfl ?_)
    simp [zfp, zfk]
  simp [zjc, t2, zct, zpw h hr_ (n + 2) hy hm hp.1, zpw h hr_ (n + 2) hz hm hp.2.1]
  refine za9 (zgy h ha n hy hz hm hp.1 hp.2.1) fun d M1 ⟨ed, S1⟩ => ?_
  rw [zgi.mpr hp.2.2] at ed
  subst ed
  exact ⟨rfl, S1⟩
theorem zkl (n : Nat) {m : zbc} {xs : List D} {rules : List zcn} (hx : Paired (zha M) xs rules) (hm : zb4 m) (hp : ∀ p ∈ rules, zb3 m p.1 /\ zb3 m p.2 /\ ends m p.1 = ends m p.2) : okE (za0 P (n + 14) 54 [m.d, .lst xs] M) fun d M' => d = .non /\ Sub M M' := by
  refine za8 hr_.need_rules rfl ?_
  simp [zg6, zls h (n + 5) hm]
  refine ⟨⟨rfl, rfl⟩, ?_⟩
  refine zeb (ds := zdw 0 xs) (fun i ρ M' => Sub M M' /\ ∃ a b, ρ = [some m.d, some (.lst xs), a, b]) (fun _ _ _ _ => rfl) ⟨.refl, none, none, rfl⟩ ?_ ?_
  · rintro i d ρ M' hd ⟨S, a, b, rfl⟩
    rw [zf1] at hd
    cases e : xs[i]? with
    | none => rw [e] at hd; cases hd
    | some x =>
      rw [e] at hd
      cases Option.some.inj hd
      obtain ⟨p, hp1, hp2⟩ := zj2 hx e
      refine ⟨_, rfl, ?_⟩
      simp
      refine za9 (zuo h ha hr_ n (k := 0) (hp2.sub S) hm (hp p (List.mem_of_getElem? hp1))) fun d M1 ⟨ed, S1⟩ => ?_
      subst ed
      simp
      exact S.trans S1
  · rintro ρ M' ⟨S, a, b, rfl⟩
    simp
    exact S
end
theorem zuu {x : D} {r : List Nat} {a b : Nat} {M : Mem} {k : D -> Mem -> Prop} (hx : zbk M x r) (hl : r.length ≤ 100000) : okE (zb7 false x (nD a) (nD (a + b)) M) k ↔ k (.lst (((r.drop a).take b).map nD)) M := by
  have e : zb7 false x (nD a) (nD (a + b)) M = zbn false (cut (r.map nD) (min a r.length) (min (a + b) r.length)) M := by
    have e1 : sIx (r.map nD).length 0 (nD a) = some (min a r.length) := by
      show some _ = _
      rw [if_neg (by omega)]; simp
    have e2 : sIx (r.map nD).length (r.map nD).length (nD (a + b)) = some (min (a + b) r.length) := by
      show some _ = _
      rw [if_neg (by omega)]; simp
      congr 1
    have : zb7 false x (nD a) (nD (a + b)) M = match rdD M x with | some xs => (match sIx xs.length 0 (nD a), sIx xs.length xs.length (nD (a + b)) with | some l, some h => zbn false (cut xs l h) M | _, _ => .bad) | none => .bad := by
      rcases hx with rfl | ⟨q, rfl, _⟩ <;> rfl
    rw [this, hx.rd]
    dsimp only
    rw [e1, e2]
  have c : cut (r.map nD) (min a r.length) (min (a + b) r.length) = ((r.drop a).take b).map nD := by
    unfold cut
    rw [List.map_take, List.map_drop]
    rcases Nat.le_total a r.length with q | q
    · rw [Nat.min_eq_left q]
      rcases Nat.le_total (a + b) r.length with q2 | q2
      · rw [Nat.min_eq_left q2]; congr 1; omega
      · rw [Nat.min_eq_right q2, List.take_of_length_le (by simp), List.take_of_length_le (by simp; omega)]
    · rw [Nat.min_eq_right q, List.drop_eq_nil_of_le (by simp), List.drop_eq_nil_of_le (by simpa using q)]; simp
  rw [e, c, zce]
  exact ⟨fun z => z.2, fun z => ⟨zas (by simp; omega), z⟩⟩
theorem zut {x : D} {r : List Nat} {a : Nat} {M : Mem} {k : D -> Mem -> Prop} (hx : zbk M x r) (hl : r.length ≤ 100000) : okE (zb7 false x .non (nD a) M) k ↔ k (.lst ((r.take a).map nD)) M := by
  have : zb7 false x .non (nD a) M = zb7 false (.lst (r.map nD)) .non (nD a) M := by
    have h2 : ∀ y, (y = x \/ y = .lst (r.map nD)) -> zb7 false y .non (nD a) M = match rdD M y with | some xs => (match sIx xs.length 0 D.non, sIx xs.length xs.length (nD a) with | some l, some h => zbn false (cut xs l h) M | _, _ => .bad) | none => .bad := fun y hy => by
      rcases hy with rfl | rfl
      · rcases hx with rfl | ⟨q, rfl, _⟩ <;> rfl
      · rfl
    rw [h2 x (.inl rfl), h2 _ (.inr rfl), hx.rd]; rfl
  rw [this, zsa, List.map_take]
  exact ⟨fun z => z.2, fun z => ⟨zas (by simp; omega), z⟩⟩
theorem zrs {x : D} {r : List Nat} {a : Nat} {M : Mem} {k : D -> Mem -> Prop} (hx : zbk M x r) (hl : r.length ≤ 100000) : okE (zb7 false x (nD a) .non M) k ↔ k (.lst ((r.drop a).map nD)) M := by
  have : zb7 false x (nD a) .non M = zb7 false (.lst (r.map nD)) (nD a) .non M := by
    have h2 : ∀ y, (y = x \/ y = .lst (r.map nD)) -> zb7 false y (nD a) .non M = match rdD M y with | some xs => (match sIx xs.length 0 (nD a), sIx xs.length xs.length D.non with | some l, some h => zbn false (cut xs l h) M | _, _ => .bad) | none => .bad := fun y hy => by
      rcases hy with rfl | rfl
      · rcases hx with rfl | ⟨q, rfl, _⟩ <;> rfl
      · rfl
    rw [h2 x (.inl rfl), h2 _ (.inr rfl), hx.rd]; rfl
  rw [this]
  show okE (zb7 false (.lst (r.map nD)) (.int a) .non M) k ↔ _
  rw [zpz, List.map_drop]
  exact ⟨fun z => z.2, fun z => ⟨zas (by simp; omega), z⟩⟩
theorem zst {m : Bool} {r t : List Nat} {M : Mem} {k : D -> Mem -> Prop} : okE (zey m .add (.lst (r.map nD)) (.lst (t.map nD)) M) k ↔ okE (zbn m ((r ++ t).map nD) M) k := by
  rw [zwl, List.map_append]
theorem zq1 {rules : List zcn} {i : Nat} {M : Mem} (hi : i < rules.length) : zcp (.lst (rules.map pairD)) (nD i) M = some (pairD (rules.getD i ([], []))) := by
  show (ixN (rules.map pairD).length (i : Int)).bind (fun j => (rules.map pairD)[j]?) = _
  rw [ze4 (by simpa using hi)]
  simp [List.getElem?_eq_getElem hi, List.getD_eq_getElem?_getD]
theorem zla {x y : D} {a b : List Nat} {M : Mem} (hx : zbk M x a) (hy : zbk M y b) : zb2 .ne x y M = some (!decide (a = b)) :=
  zhl (by rw [hx.vw]; exact zgr 63 a) (by rw [hy.vw]; exact zgr 63 b) (by rw [hx.vw, hy.vw]; exact zky a b)
def zlc : GS := (zad (zar (.one 8) (zav false .add (zaa 3) (za7 .len (zab (zaa 6) (zah))))) (zad (zbh (zax (zbb .ne (zdm false true true (zaa 1) (zaa 3) (zaa 8)) (zaa 6))) (zad (zay (gC .non)) (zai)) (zai)) (zad (zar (.one 9) (zav true .add (zav false .add (zdm false false true (zaa 1) (gC .non) (zaa 3)) (zaa 7)) (zdm false true false (zaa 1) (zaa 8) (gC .non)))) (zad (zay (zh4 (zax (zbb .le (za7 .len (zab (zaa 9) (zah))) (gC (.int 40)))) (zaa 9) (gC .non))) (zai)))))
theorem beh_eq (c : Call) : zgk c = zad (zar (.tup [3, 4, 5]) (zaa 2)) (zad (zbh (tOr (zdg (zax (zam 0 c (zab (zaa 3) (zab (gC (.int 0)) (zab (za7 .len (zab (zaa 1) (zah))) (zah))))))) (zdg (zax (zam 0 c (zab (zaa 4) (zab (gC (.int 0)) (zab (zav false .sub (za7 .len (zab (zaa 0) (zah))) (gC (.int 1))) (zah)))))))) (zad (zay (gC .non)) (zai)) (zai)) (zad (zar (.tup [6, 7]) (za2 (zaa 0) (zaa 4))) (zad (zbh (zax (zaa 5)) (zad (sPar 6 7 (zab (zaa 7) (zab (zaa 6) (zah)))) (zai)) (zai)) (zlc)))) := rfl
theorem zop {row g t : List Nat} {p : Nat} : (zdb row p g t).length ≤ row.length + t.length := by unfold zdb; simp; omega
theorem zvw (row g t : List Nat) (p : Nat) : (row.take p ++ t ++ row.drop (p + g.length)).map nD = (zdb row p g t).map nD := rfl
theorem zyf {x : D} {M : Mem} {row g t : List Nat} {p : Nat} {x0 x2 x4 x5 x8 x9 : Option D} (hx : zbk M x row) (hl : row.length ≤ 100) (hg : g.length ≤ 100) (ht : t.length ≤ 100) :
    okE (zlc [x0, some x, x2, some (nD p), x4, x5, some (.lst (g.map nD)), some (.lst (t.map nD)), x8, x9] M) (zkv fun d M' => Sub M M' /\ if (row.drop p).take g.length = g then (if (zdb row p g t).length ≤ 40 then ∃ q, d = .cell q /\ M.length ≤ q /\ M'[q]? = some ((zdb row p g t).map nD) else d = .non) else d = .non) := by
  unfold zlc
  simp
  rw [<- Int.natCast_add]
  refine ⟨rfl, rfl, (zuu hx (by omega)).mpr ?_⟩
  rw [zla .l .l]
  have ml := zop (row := row) (g := g) (t := t) (p := p)
  by_cases c : (row.drop p).take g.length = g
  · simp [c]
    refine ⟨rfl, rfl, (zut hx (by omega)).mpr ?_⟩
    rw [zst, zce, <- Int.natCast_add]
    refine ⟨zas (by simp; omega), rfl, rfl, (zrs hx (by omega)).mpr ?_⟩
    rw [zst, zjm, zvw]
    refine ⟨zas (by simp; omega), ?_⟩
    simp
    by_cases c2 : (zdb row p g t).length ≤ 40
    · simp [c2]
      exact .inr ⟨by omega, Sub.app⟩
    · simp [c2]
      exact ⟨by omega, Sub.app, by omega⟩
  · simp [c]
    exact .refl
section
variable {P : Nat -> Option Df} (h : ziw P) (ha : HasA P) (hr_ : HasR P) {M : Mem}
include h hr_
theorem zuq (n : Nat) {m : zbc} {x : D} {rules : List zcn} {row : List Nat} {s : Stp} (hx : zbk M x row) (hR : zec m rules) (hr : zb3 m row) : okE (za0 P (n + 2) 55 [.lst (rules.map pairD), x, s.d] M) fun d M' => Sub M M' /\ match zb0 rules row s with
    | some r => ∃ q, d = .cell q /\ M.length ≤ q /\ M'[q]? = some (r.map nD)
    | none => d = .non := by
  refine za8 hr_.behind rfl ?_
  have l1 := hr.1
  simp only [beh_eq]
  simp [Stp.d, zct, hx.len, zf8 h]
  by_cases c1 : s.place ≤ row.length
  · refine .inr ⟨c1, ?_⟩
    by_cases c3 : s.num < rules.length
    · refine .inr ⟨by omega, pairD (rules.getD s.num ([], [])), ?_, ?_⟩
      · have i0 := zq1 (M := M) c3
        rw [zso] at i0
        simpa using i0
      have hp := hR.at c3
      have hw := zki hp s.back
      have fin : ∀ (x5 : Option D) (kk : D -> Mem -> Prop), (∀ d M', (Sub M M' /\ match zb0 rules row s with | some r => ∃ q, d = .cell q /\ M.length ≤ q /\ M'[q]? = some (r.map nD) | none => d = .non) -> kk d M') -> okE (zlc [some (.lst (rules.map pairD)), some x, some (.tup [nD s.place, nD s.num, .bl s.back]), some (nD s.place), some (nD s.num), x5, some (.lst (((rules.getD s.num ([], [])).way s.back).1.map nD)), some (.lst (((rules.getD s.num ([], [])).way s.back).2.map nD)), none, none] M) (zkv kk) := by
        intro x5 kk hk
        refine za9 (zyf hx (by omega) (by have := hw.l1; omega) (by have := hw.l2; omega)) fun fl M' q => ?_
        have key : ∀ d, (Sub M M' /\ if (row.drop s.place).take ((rules.getD s.num ([], [])).way s.back).1.length = ((rules.getD s.num ([], [])).way s.back).1 then (if (zdb row s.place ((rules.getD s.num ([], [])).way s.back).1 ((rules.getD s.num ([], [])).way s.back).2).length ≤ 40 then ∃ q, d = .cell q /\ M.length ≤ q /\ M'[q]? = some ((zdb row s.place ((rules.getD s.num ([], [])).way s.back).1 ((rules.getD s.num ([], [])).way s.back).2).map nD) else d = .non) else d = .non) -> kk d M' := by
          rintro d ⟨S, q⟩
          refine hk d M' ⟨S, ?_⟩
          unfold zb0
          rw [if_pos ⟨c1, c3⟩]
          dsimp only
          split at q
          · next c4 =>
            rw [if_pos c4]
            split at q
            · next c5 => rw [if_pos c5]; exact q
            · next c5 => rw [if_neg c5]; exact q
          · next c4 => rw [if_neg c4]; exact q
        cases fl with
        | next ρ => exact key .non q
        | ret d => exact key d q
      cases hb : s.back with
      | false =>
        rw [hb] at fin
        simp [pairD, zct]
        exact fin _ _ fun d M' z => z
      | true =>
        rw [hb] at fin
        simp [pairD, zct]
        have := fin (some (.bl true)) _ fun d M' z => z
        rw [List.getD_eq_getElem?_getD] at this
        exact ⟨_, _, ⟨rfl, rfl⟩, this⟩
    · refine .inl ⟨by omega, .refl, ?_⟩
      unfold zb0
      rw [if_neg (by omega)]
      trivial
  · refine .inl ⟨by omega, .refl, ?_⟩
    unfold zb0
    rw [if_neg (by omega)]
    trivial
include ha
theorem zgx (n : Nat) {m : zbc} {x : D} {rules : List zcn} {row made : List Nat} {ss : List Stp} (hx : zbk M x row) (hm : zb4 m) (hR : zec m rules) (hr : zb3 m row) (hss : ss.length ≤ 1000) (e : zcb rules ss row = some made) :
    okE (za0 P (n + 15) 56 [m.d, .lst (rules.map pairD), x, .lst (ss.map Stp.d)] M) fun d M' => Sub M M' /\ ∃ q, d = .cell q /\ M.length ≤ q /\ M'[q]? = some (made.map nD) := by
  refine za8 hr_.stepped rfl ?_
  have hpr : Paired (zha M) (rules.map pairD) rules := by
    have : ∀ l : List zcn, Paired (zha M) (l.map pairD) l := fun l => by
      induction l with
      | nil => exact .nil
      | cons a l ih => exact .cons .l ih
    exact this rules
  simp [zi9, zkk h (n + 5) hx hm hr]
  refine za9 (zkl h ha hr_ n hpr hm fun p hp => ⟨(hR.ok p hp).r1, (hR.ok p hp).r2, (hR.ok p hp).al⟩) fun d M1 ⟨ed, S1⟩ => ?_
  rw [(hx.sub S1).list, zjm]
  have l1 := hr.1
  refine ⟨zas (by simp; omega), ⟨rfl, rfl⟩, ?_⟩
  have L1 := S1.len
  refine zeb (ds := zdw 0 (ss.map Stp.d)) (fun i ρ M' => Sub M M' /\ ∃ q r, M.length ≤ q /\ M'[q]? = some (r.map nD) /\ zb3 m r /\ zcb rules (ss.take i) row = some r /\ ∃ x5 x6 x7, ρ = [some m.d, some (.lst (rules.map pairD)), some x, some (.lst (ss.map Stp.d)), some (.cell q), x5, x6, x7]) (fun _ _ _ _ => rfl) ?_ ?_ ?_
  · exact ⟨S1.trans Sub.app, M1.length, row, L1, by simp, hr, rfl, none, none, none, rfl⟩
  · rintro i d ρ M' hd ⟨S, q, r, hq, eq, hro, es, x5, x6, x7, rfl⟩
    rw [zf1, List.getElem?_map] at hd
    cases e1 : ss[i]? with
    | none => rw [e1] at hd; cases hd
    | some st =>
      rw [e1] at hd
      cases Option.some.inj hd
      have hi := (List.getElem?_eq_some_iff.mp e1).1
      have esplit : ss = ss.take i ++ st :: ss.drop (i + 1) := by
        rw [<- (List.getElem?_eq_some_iff.mp e1).2, <- List.drop_eq_getElem_cons hi, List.take_append_drop]
      obtain ⟨r2, e2⟩ : ∃ r2, zb0 rules r st = some r2 := by
        rw [esplit, zfq, es] at e
        have e : (zb0 rules r st).bind (zcb rules (ss.drop (i + 1))) = some made := e
        cases q : zb0 rules r st with
        | none => rw [q] at e; cases e
        | some z => exact ⟨z, rfl⟩
      refine ⟨_, rfl, ?_⟩
      simp
      refine za9 (zuq h hr_ (n + 12) (zbk.c eq) hR hro (s := st)) fun d M2 ⟨S2, q2⟩ => ?_
      rw [e2] at q2
      obtain ⟨qq, rfl, hqq, eqq⟩ := q2
      have : zcb rules (ss.take (i + 1)) row = some r2 := by
        rw [List.take_succ, e1, zfq, es]
        show (zb0 rules r st).bind _ = _
        rw [e2]; rfl
      have S3 := S.trans S2
      have L3 := S.len
      simp [zb2, zj5]
      exact ⟨S3, qq, by omega, r2, eqq, ziy hR hro e2, this, rfl⟩
  · rintro ρ M' ⟨S, q, r, hq, eq, hro, es, x5, x6, x7, rfl⟩
    rw [zg5, List.length_map, List.take_length, e] at es
    cases es
    simp
    exact ⟨S, hq, eq⟩
omit h ha in
theorem zht (n : Nat) {rules : List zcn} {m : zbc} (hR : zec m rules) : za0 P (n + 1) 57 [.lst (rules.map pairD)] M = .ok (.lst (rules.map pairD)) M := by
  refine zba (za8 hr_.copied rfl ?_)
  have hl := hR.len
  simp [zgn]
  refine ⟨rfl, zhz (ds := rules.map pairD) id (zas (by simp; omega)) rfl ?_ ⟨zas (by simp; omega), by simp, rfl⟩⟩
  intro d hd
  obtain ⟨p, hp, rfl⟩ := List.mem_map.mp hd
  have ok := hR.ok p hp
  have a1 := ok.l1
  have a2 := ok.l2
  refine ⟨_, rfl, zba ?_⟩
  simp [pairD]
  exact ⟨zas (by omega), zas (by omega), zas (by omega)⟩
end
end LD
namespace LD
open PySem
structure Has13 (P : Nat -> Option Df) : Prop where
  m : ziw P
  p : zl4 P
  s : HasS P
  a : HasA P
  r : HasR P
  ends : P 44 = some ⟨2, 5, zd9⟩
  al : P 49 = some ⟨2, 7, zcy⟩
  due : P 58 = some ⟨3, 9, zm8⟩
  some_ : P 59 = some ⟨3, 6, zl2⟩
  law : P 60 = some ⟨1, 14, z0w⟩
theorem zvy {m : Bool} {q : Nat} {ds : List D} {M : Mem} {k : D -> Mem -> Prop} (e : M[q]? = some ds) : okE (zex (.list m) [.cell q] M) k ↔ okE (zbn m ds M) k := by
  show okE (match M[q]? with | some xs => _ | none => _) k ↔ _
  rw [e]
section
variable {P : Nat -> Option Df} (h : Has13 P) {M : Mem}
include h
end
end LD
namespace LD
open PySem
structure Has15 (P : Nat -> Option Df) : Prop where
  m : ziw P
  p : zl4 P
  s : HasB P
  a : HasA P
  r : HasR P
  ends : P 44 = some ⟨2, 5, zd9⟩
  al : P 49 = some ⟨2, 7, zcy⟩
  places : P 61 = some ⟨4, 7, zgm⟩
  walk : P 62 = some ⟨4, 11, zhn⟩
  law : P 63 = some ⟨1, 13, zle⟩
theorem zrt {j a : Nat} {xs : List D} {M : Mem} {k : D -> Mem -> Prop} (e : M[j]? = some xs) : okE (zb7 false (.cell j) .non (nD a) M) k ↔ (xs.take a).length ≤ sz /\ k (.lst (xs.take a)) M := by
  have : zb7 false (.cell j) .non (nD a) M = zb7 false (.lst xs) .non (nD a) M := by simp [zb7, rdD, e]
  rw [this]; exact zsa
theorem zm9 {x y : D} {r t : List Nat} {M : Mem} {k : D -> Mem -> Prop} (hx : zbk M x r) (hy : zbk M y t) : okE (zey false .add x y M) k ↔ ((r ++ t).map nD).length ≤ sz /\ k (.lst ((r ++ t).map nD)) M := by
  have : zey false .add x y M = zbn false ((r ++ t).map nD) M := by
    rw [List.map_append]
    rcases hx with rfl | ⟨q, rfl, e⟩ <;> rcases hy with rfl | ⟨q2, rfl, e2⟩ <;> simp [zey, zh3, *]
  rw [this]; exact zce
def Stp.rev (s : Stp) : Stp := ⟨s.place, s.num, !s.back⟩
theorem zy4 (r : zcn) (b : Bool) : r.way (!b) = ((r.way b).2, (r.way b).1) := by cases b <;> rfl
theorem zvv {row g t : List Nat} {p : Nat} (hp : p ≤ row.length) (hg : (row.drop p).take g.length = g) : zdb (zdb row p g t) p t g = row /\ ((zdb row p g t).drop p).take t.length = t /\ p ≤ (zdb row p g t).length := by
  have l : (row.take p).length = p := by simp; omega
  have e1 : (zdb row p g t).take p = row.take p := by
    unfold zdb; rw [List.append_assoc, List.take_append_of_le_length (by omega), List.take_of_length_le (by omega)]
  have e2 : (zdb row p g t).drop p = t ++ row.drop (p + g.length) := by
    unfold zdb; rw [List.append_assoc]
    have := List.drop_left (l₁ := row.take p) (l₂ := t ++ row.drop (p + g.length))
    rw [l] at this
    exact this
  have e3 : (zdb row p g t).drop (p + t.length) = row.drop (p + g.length) := by
    rw [<- List.drop_drop, e2, List.drop_left]
  refine ⟨?_, ?_, ?_⟩
  · unfold zdb at e1 e3 ⊢
    rw [e1, e3]
    conv => rhs; rw [<- List.take_append_drop p row, <- List.take_append_drop g.length (row.drop p), hg, List.drop_drop]
    rw [List.append_assoc]
  · rw [e2, List.take_left]
  · unfold zdb; simp; omega
theorem zui {rules : List zcn} {row made : List Nat} {s : Stp} (hl : row.length ≤ 40) (e : zb0 rules row s = some made) : zb0 rules made s.rev = some row := by
  unfold zb0 at e
  split at e
  · next c =>
    dsimp only at e
    split at e
    · next c1 =>
      split at e
      · cases e
        obtain ⟨b1, b2, b3⟩ := zvv (t := ((rules.getD s.num ([], [])).way s.back).2) c.1 c1
        unfold zb0 Stp.rev
        rw [if_pos ⟨b3, c.2⟩]
        dsimp only
        rw [zy4]
        dsimp only
        rw [if_pos b2, b1, if_pos hl]
      · cases e
    · cases e
  · cases e
theorem zmd {m : zbc} {rules : List zcn} (hR : zec m rules) : ∀ (ss : List Stp) {row made : List Nat}, zb3 m row -> zcb rules ss row = some made -> zcb rules (ss.reverse.map Stp.rev) made = some row
  | [], row, made, hr, e => by cases e; rfl
  | s :: r, row, made, hr, e => by
    have e : (zb0 rules row s).bind (zcb rules r) = some made := e
    cases q : zb0 rules row s with
    | none => rw [q] at e; cases e
    | some x =>
      rw [q] at e
      rw [List.reverse_cons, List.map_append, zfq, zmd hR r (ziy hR hr q) e]
      show (zb0 rules x s.rev).bind _ = _
      rw [zui hr.1 q]; rfl
theorem zsx {m : zbc} {rules : List zcn} {row made : List Nat} {s : Stp} (hR : zec m rules) (e : zb0 rules row s = some made) : made.length ≤ row.length + 3 := by
  unfold zb0 at e
  split at e
  · next c =>
    dsimp only at e
    split at e
    · split at e
      · cases e
        have := (zki (hR.at c.2) s.back).l2
        have := zop (row := row) (g := ((rules.getD s.num ([], [])).way s.back).1) (t := ((rules.getD s.num ([], [])).way s.back).2) (p := s.place)
        omega
      · cases e
    · cases e
  · cases e
section
variable {P : Nat -> Option Df} (h : Has15 P) {M : Mem}
include h
theorem zum (n : Nat) {m : zbc} {x : D} {rules : List zcn} {row : List Nat} {num : Nat} {bk : Bool} (hx : zbk M x row) (hR : zec m rules) (hr : zb3 m row) (hn : num < rules.length) : okE (za0 P (n + 1) 61 [.lst (rules.map pairD), x, nD num, .bl bk] M) fun d M' => M' = M /\ ∃ ps : List Nat, d = .lst (ps.map nD) /\ ps.length ≤ 50 /\ ∀ p ∈ ps, ∃ r, zb0 rules row ⟨p, num, bk⟩ = some r := by
  refine za8 h.places rfl ?_
  have l1 := hr.1
  have hp := hR.at hn
  have i0 := zq1 (M := M) hn
  generalize hrl : rules.getD num ([], []) = rl at hp i0
  have hw := zki hp bk
  have hdue : ∀ p, p ≤ row.length -> (row.drop p).take (rl.way bk).1.length = (rl.way bk).1 -> (row.length : Int) - ((rl.way bk).1.length : Int) + ((rl.way bk).2.length : Int) < 41 -> ∃ r, zb0 rules row ⟨p, num, bk⟩ = some r := by
    intro p hp c hlen
    unfold zb0
    rw [if_pos ⟨hp, hn⟩]
    dsimp only
    rw [hrl, if_pos c, if_pos ?_]
    · exact ⟨_, rfl⟩
    · have hl := congrArg List.length c
      rw [List.length_take, List.length_drop] at hl
      unfold zdb
      rw [List.length_append, List.length_append, List.length_take, List.length_drop]
      omega
  have gi : zcp (pairD rl) (.int (if bk = true then 1 else 0)) M = some (.lst ((rl.way bk).1.map nD)) := by cases bk <;> rfl
  have ti : zcp (pairD rl) (.int (1 - (if bk = true then 1 else 0))) M = some (.lst ((rl.way bk).2.map nD)) := by cases bk <;> rfl
  have a1 := hw.l1
  have a2 := hw.l2
  generalize rl.way bk = gt at gi ti hdue a1 a2
  obtain ⟨g, t⟩ := gt
  dsimp only at gi ti hdue a1 a2
  simp only [zgm, zby, zda, zm3, zcw, zia, zdp, zcj, zv6, zib, e_c]
  simp only [Option.some.injEq, exists_eq_left', List.getElem?_cons_zero, List.getElem?_cons_succ, Option.getD_some, List.set_cons_zero, List.set_cons_succ, List.map_cons, List.map_nil, List.cons_append, List.nil_append, List.replicate]
  refine ⟨_, i0, .inr ⟨bk, rfl, _, gi, ?_⟩⟩
  simp only [zhj, zce]
  refine ⟨zas (by simp; omega), ?_⟩
  simp only [zch, zby, zda, zia, zcj, zib, zv6, e_c]
  simp only [Option.some.injEq, exists_eq_left', List.getElem?_cons_zero, List.getElem?_cons_succ, Option.getD_some, List.set_cons_zero, List.set_cons_succ, List.length_cons, List.length_nil, List.replicate]
  refine ⟨_, i0, .inr ⟨bk, rfl, ?_⟩⟩
  simp only [zpt]
  refine ⟨_, ti, ?_⟩
  simp [-Bool.exists_bool, hx.len]
  refine ⟨by omega, ?_⟩
  refine zwb (fun d => match d with | .int i => decide ((row.drop i.toNat).take g.length = g) | _ => false) id (zas (by simp; omega)) rfl ?_ ?_
  · intro d hd
    obtain ⟨k, hk, rfl⟩ := List.mem_map.mp hd
    refine ⟨_, rfl, ?_, fun _ => rfl⟩
    refine zoq ?_
    simp [-Bool.exists_bool]
    rw [<- Int.natCast_add]
    refine ⟨rfl, rfl, (zuu hx (by omega)).mpr ?_⟩
    exact ⟨_, zwh, rfl, rfl⟩
  · have ef : List.map id (List.filter (fun d => match d with | .int i => decide ((row.drop i.toNat).take g.length = g) | _ => false) ((List.range (row.length + 1)).map fun (k : Nat) => D.int (k : Int))) = ((List.range (row.length + 1)).filter fun k => decide ((row.drop k).take g.length = g)).map nD := by
      rw [List.map_id, List.filter_map]
      rfl
    rw [ef]
    have lf : ((List.range (row.length + 1)).filter fun k => decide ((row.drop k).take g.length = g)).length ≤ row.length + 1 := Nat.le_trans (List.length_filter_le _ _) (by simp)
    generalize hps : (List.range (row.length + 1)).filter (fun k => decide ((row.drop k).take g.length = g)) = ps at lf
    refine ⟨zas (by simp; omega), hx.len.mpr ?_⟩
    simp only [zpt, zh0]
    by_cases c : (row.length : Int) - (g.length : Int) + (t.length : Int) < 41
    · refine ⟨true, by simp [c], ?_⟩
      rw [if_pos rfl]
      refine ⟨trivial, ps, rfl, by omega, fun p hp => ?_⟩
      rw [<- hps, List.mem_filter, List.mem_range, decide_eq_true_eq] at hp
      exact hdue p (by omega) hp.2 c
    · exact ⟨false, by simp [c], by simp⟩
def WInv (m : zbc) (rules : List zcn) (row : List Nat) (p B qs : Nat) (M : Mem) (j : Nat) (ρ : Env) (M' : Mem) : Prop := zbj M' p (B + 1 + j * 4) /\ zbr p M M' /\ ∃ ss here x, M'[qs]? = some (ss.map Stp.d) /\ zbk M' x here /\ (x = .lst (row.map nD) \/ ∃ q', x = .cell q' /\ qs < q') /\ (ss.length ≤ j /\ zcb rules ss row = some here /\ zb3 m here /\ here.length ≤ row.length + 3 * j) /\ ∃ x6 x7 x8 x9 x10, ρ = [some (.cell p), some m.d, some (.lst (rules.map pairD)), some (.lst (row.map nD)), some (.cell qs), some x, x6, x7, x8, x9, x10]
structure zrm (m : zbc) (rules : List zcn) (row : List Nat) (k : Nat) (ss : List Stp) (here : List Nat) : Prop where
  len : ss.length ≤ k
  st : zcb rules ss row = some here
  ok : zb3 m here
  hl : here.length ≤ row.length + 3 * k
theorem zy9 (n : Nat) {m : zbc} {p B : Nat} {rules : List zcn} {row : List Nat} (hp : zbj M p B) (hB : B ≤ 900000) (hm : zb4 m) (hR : zec m rules) (h0 : rules ≠ []) (hr : zb3 m row) : okE (za0 P (n + 17) 62 [.cell p, m.d, .lst (rules.map pairD), .lst (row.map nD)] M) fun d M' => zbj M' p (B + 50) /\ zbr p M M' /\ ∃ q x ss here, d = .tup [.cell q, x] /\ M.length ≤ q /\ M'[q]? = some (ss.map Stp.d) /\ zbk M' x here /\ (x = .lst (row.map nD) \/ ∃ q', x = .cell q' /\ q < q') /\ zrm m rules row 7 ss here := by
  refine za8 h.walk rfl ?_
  have l1 := hr.1
  have l2 := hR.len
  have l0 : 0 < rules.length := List.length_pos_iff.mpr h0
  simp only [zhn, zby, zda, zty, zdp, zcj]
  simp only [zjm, Option.some.injEq, exists_eq_left', List.getElem?_cons_zero, List.getElem?_cons_succ, Option.getD_some, List.set_cons_zero, List.set_cons_succ, List.map_cons, List.map_nil, List.cons_append, List.nil_append, List.length_cons, List.length_nil, List.replicate]
  refine ⟨by simp, ?_⟩
  simp only [zch, zby, zda, zu4, zl9, zcj, zib, e_c, zd1, zcw, zdp, Option.some.injEq, exists_eq_left', List.getElem?_cons_zero, List.getElem?_cons_succ, Option.getD_some, List.set_cons_zero, List.set_cons_succ, List.replicate]
  have pl := hp.lt
  refine tk h.p (n + 14) (many := 6) hp.app (by omega) (by omega) (by omega) fun turns M1 ht q1 k1 => ?_
  simp only [zh0]
  refine ⟨_, rfl, by omega, ?_⟩
  have e1 : M1[M.length]? = some [] := k1.get (by simp) (by omega)
  generalize hqs : M.length = qs at e1
  have k0 : zbr p M M1 := (zbr.app (X := [[]])).trans k1
  refine zeb (ds := (List.range ((2 : Int) + (turns : Int)).toNat).map fun (k : Nat) => D.int (k : Int)) (WInv m rules row p B qs M) (fun _ _ _ _ => rfl) ⟨q1, k0, [], row, _, e1, .l, .inl rfl, ⟨Nat.zero_le _, rfl, hr, by omega⟩, none, none, none, none, none, rfl⟩ ?_ ?_
  · rintro j d ρ M' hd ⟨p', k', ss, here, x, es, hx, hxf, ⟨hwl, hwst, hwok, hwhl⟩, x6, x7, x8, x9, x10, rfl⟩
    have hw : zrm m rules row j ss here := ⟨hwl, hwst, hwok, hwhl⟩
    have hj : j < 7 := by
      have := (List.getElem?_eq_some_iff.mp hd).1
      simp at this; omega
    refine ⟨_, rfl, ?_⟩
    simp [-Bool.exists_bool]
    refine tk h.p (n + 14) p' (by omega) l0 (by omega) fun num M2 hnum q2 k2 => ?_
    refine tk h.p (n + 14) (many := 2) q2 (by omega) (by omega) (by omega) fun bk M3 hbk q3 k3 => ?_
    have eb : zb2 .eq (nD bk) (.int 1) M3 = some (decide (bk = 1)) := by
      show some ((bk : Int) == 1) = _
      rw [Option.some.injEq, Bool.eq_iff_iff]; simp; omega
    refine ⟨_, eb, ?_⟩
    have k23 := k2.trans k3
    have pl3 := hp.lt
    have keepx : ∀ {Ma Mb : Mem}, zbr p Ma Mb -> zbk Ma x here -> zbk Mb x here := fun kk hx => by
      rcases hx with e | ⟨q', rfl, e⟩
      · exact .inl e
      · refine .inr ⟨q', rfl, kk.get e ?_⟩
        rcases hxf with z | ⟨q'', z, hq⟩
        · cases z
        · cases z; omega
    have hx3 := keepx k23 hx
    have es3 : M3[qs]? = some (ss.map Stp.d) := k23.get es (by omega)
    refine za9 (zum h (n + 15) hx3 hR hw.ok hnum (bk := decide (bk = 1))) fun d M4 ⟨eM, ps, ed, lps, hps⟩ => ?_
    subst eM ed
    cases hc : ps with
    | nil =>
      refine ⟨false, zhl (v := true) rfl rfl rfl, ?_⟩
      simp
      exact ⟨q3.mono (by omega), k'.trans k23, ss, here, x, es3, hx3, hxf, ⟨by have := hw.len; omega, hw.st, hw.ok, by have := hw.hl; omega⟩, _, _, _, _, _, rfl⟩
    | cons p0 pr =>
      rw [<- hc]
      refine ⟨true, by rw [hc]; exact zhl (v := false) (zgr 63 (p0 :: pr)) rfl rfl, ?_⟩
      rw [if_pos rfl]
      refine tk h.p (n + 14) (many := (ps.map nD).length) q3 (by omega) (by rw [hc]; simp) (by simp; omega) fun at_ M5 hat q5 k5 => ?_
      have hat : at_ < ps.length := by simpa using hat
      have hx5 := keepx k5 hx3
      have es5 : M5[qs]? = some (ss.map Stp.d) := k5.get es3 (by omega)
      obtain ⟨r, er⟩ := hps _ (List.getElem_mem hat)
      refine ⟨nD ps[at_], ?_, zas (by omega), ?_⟩
      · show (ixN (ps.map nD).length (at_ : Int)).bind (fun j => (ps.map nD)[j]?) = _
        rw [ze4 (by simpa using hat)]
        simp [hat]
      rw [zht h.r (n + 15) hR]
      refine hx5.list.mpr (zce.mpr ⟨zas (by have := hw.ok.1; simp; omega), zas (by omega), ?_⟩)
      refine za9 (zgx h.m h.a h.r (n + 1) (M := M5) (x := .lst (here.map nD)) (ss := [⟨ps[at_], num, decide (bk = 1)⟩]) .l hm hR hw.ok (by simp) (show zcb rules [_] here = some r by show (zb0 rules here _).bind _ = _; rw [er]; rfl)) fun d M6 ⟨S6, q6, ed, hq6, e6⟩ => ?_
      subst ed
      have es6 : M6[qs]? = some (ss.map Stp.d) := S6.get es5
      have hqs6 : qs < q6 := by have := (List.getElem?_eq_some_iff.mp es5).1; omega
      have pqs : p < qs := by omega
      refine ⟨_, es6, ?_, ((S6.pen q5).setq pqs).mono (by omega), ?_, ss ++ [⟨ps[at_], num, decide (bk = 1)⟩], r, .cell q6, ?_, ?_, .inr ⟨q6, rfl, hqs6⟩, ⟨by have := hw.len; simp; omega, ?_, ziy hR hw.ok er, ?_⟩, _, _, _, _, _, rfl⟩
      · exact Nat.lt_of_le_of_lt (show _ ≤ 100 by have := hw.len; simp; omega) (by decide)
      · exact ((k'.trans (k23.trans k5)).trans S6.keep).setq (by omega)
      · rw [List.getElem?_set_self (List.getElem?_eq_some_iff.mp es6).1]; simp [Stp.d]
      · exact .inr ⟨q6, rfl, by rw [List.getElem?_set_ne (by omega)]; exact e6⟩
      · rw [zfq, hw.st]
        show (zb0 rules here _).bind _ = _
        rw [er]; rfl
      · have := zsx hR er
        have := hw.hl
        omega
  · rintro ρ M' ⟨p', k', ss, here, x, es, hx, hxf, ⟨hwl, hwst, hwok, hwhl⟩, x6, x7, x8, x9, x10, rfl⟩
    have hw : zrm m rules row _ ss here := ⟨hwl, hwst, hwok, hwhl⟩
    have lr : ((List.range ((2 : Int) + (turns : Int)).toNat).map fun (k : Nat) => D.int (k : Int)).length ≤ 7 := by simp; omega
    simp
    refine ⟨zas (by omega), p'.mono (by omega), k', qs, x, ⟨rfl, rfl⟩, by omega, ss, es, here, hx, hxf, ⟨Nat.le_trans hw.len lr, hw.st, hw.ok, by have := hw.hl; omega⟩⟩
end
def I15 (ns : List Int) (i : Nat) (ρ : Env) (M : Mem) : Prop := zbj M 1 (i * 2000) /\ ∃ x2 x3 x4 x5 x6 x7 x8 x9 x10 x11 x12, ρ = [some (.frz (ns.map D.int)), some (.cell 1), x2, x3, x4, x5, x6, x7, x8, x9, x10, x11, x12]
section
variable {P : Nat -> Option Df} (h : Has15 P) {M : Mem}
include h
set_option maxHeartbeats 4000000 in
theorem law15 (ns : List Int) (hn : ns.length ≤ 63) : ∃ M, za0 P 40 63 [.frz (ns.map D.int)] [] = .ok (.bl true) M := by
  have goal : okE (za0 P 40 63 [.frz (ns.map D.int)] []) fun d _ => d = .bl true := by
    refine za8 h.law rfl ?_
    simp only [zle, zby, zda, zd1, zcw, zdp, zcj]
    simp only [Option.some.injEq, exists_eq_left', List.getElem?_cons_zero, List.getElem?_cons_succ, Option.getD_some, List.map_cons, List.map_nil, List.cons_append, List.nil_append]
    refine za9 (zzd h.p 38 hn) fun d M1 ⟨ed, q1⟩ => ?_
    subst ed
    simp only [zch, zby, zu4, zl9, e_c]
    refine ⟨4, rfl, by decide, ?_⟩
    refine zeb (ds := (List.range 4).map fun (k : Nat) => D.int (k : Int)) (I15 ns) (fun _ _ _ _ => rfl) ⟨q1, none, none, none, none, none, none, none, none, none, none, none, rfl⟩ ?_ ?_
    · rintro i d ρ M' hd ⟨q2, x2, x3, x4, x5, x6, x7, x8, x9, x10, x11, x12, rfl⟩
      have hi : i < 4 := by
        have := (List.getElem?_eq_some_iff.mp hd).1
        simpa using this
      refine ⟨_, rfl, ?_⟩
      simp only [zby, zda, zd1, zcw, zdp, e_c, zcj, zch]
      simp only [Option.some.injEq, exists_eq_left', List.getElem?_cons_zero, List.getElem?_cons_succ, Option.getD_some, List.set_cons_zero, List.set_cons_succ]
      refine za9 (zzk h.p 38 q2) fun d M3 ⟨ed, q3, k3⟩ => ?_
      subst ed
      refine za9 (zsz h.p 34 (W := 3) (Pl := 2) (mo := 5) q3 (by omega) (by decide) (by decide) (by decide) (by decide) (by decide) (by decide)) fun d M4 ⟨m, em, hm, _, _, _, q4, k4⟩ => ?_
      subst em
      refine za9 (zw1 h.p h.s h.ends h.al 35 (M := M4) hm q4 (by omega)) fun d M5 ⟨q, prs, ed, hq, eq, pne, pl, pok, q5, k5⟩ => ?_
      subst ed
      have q1lt : 1 < q := by have := q4.lt; omega
      have lp0 : 0 < prs.length := List.length_pos_iff.mpr pne
      simp only [zch, zby, zda, zq8, zl9, zib, e_c]
      refine ⟨3, rfl, by decide, ?_⟩
      refine comp_map (ds := (List.range 3).map fun (k : Nat) => D.int (k : Int)) (fun j acc M' => ∃ rules : List zcn, acc = rules.map pairD /\ rules.length = j /\ zlf m 3 rules /\ zbj M' 1 (i * 2000 + 800 + j) /\ zbr 1 M5 M') (zas (by simp)) (fun _ _ _ _ => rfl) ⟨[], rfl, rfl, fun p hp => by (cases hp), q5.mono (by omega), .refl⟩ ?_ ?_
      · rintro j d acc M' hd _ ⟨rules, rfl, hl, hok, p', k'⟩
        have hj : j < 3 := by
          have := (List.getElem?_eq_some_iff.mp hd).1
          simpa using this
        have e' : M'[q]? = some (prs.map pairD) := k'.get eq (by omega)
        refine ⟨_, rfl, ?_⟩
        simp [-Bool.exists_bool, -zgu, e']
        refine tk h.p 37 p' (by omega) lp0 (by omega) fun at_ M7 hat q7 k7 => ?_
        have e7 : M7[q]? = some (prs.map pairD) := k7.get e' (by omega)
        refine ⟨pairD prs[at_], ?_, rules ++ [prs[at_]], by simp, by simp [hl], fun p hp => ?_, q7.mono (by omega), k'.trans k7⟩
        · show (M7[q]?).bind (fun ds => (ixN ds.length (at_ : Int)).bind fun j => ds[j]?) = _
          rw [e7]
          show (ixN (prs.map pairD).length (at_ : Int)).bind (fun j => (prs.map pairD)[j]?) = _
          rw [ze4 (by simpa using hat)]
          simp [hat]
        · rcases List.mem_append.mp hp with z | z
          · exact hok p z
          · simp at z; subst z; exact pok _ (List.getElem_mem hat)
      rintro acc M7 hl7 ⟨rules0, rfl, hl, hok, q7, k7⟩
      simp at hl q7
      have e7 : M7[q]? = some (prs.map pairD) := k7.get eq (by omega)
      have il : zcp (.cell q) (.int (-1)) M7 = some (pairD (prs.getLast pne)) := by
        show (M7[q]?).bind (fun ds => (ixN ds.length (-1)).bind fun j => ds[j]?) = _
        rw [e7]
        show (ixN (prs.map pairD).length (-1)).bind (fun j => (prs.map pairD)[j]?) = _
        rw [zsm (by simpa using lp0)]
        show (prs.map pairD)[(prs.map pairD).length - 1]? = _
        rw [List.getElem?_map, List.length_map, List.getElem?_eq_getElem (by omega), List.getLast_eq_getElem]; rfl
      let rules : List zcn := rules0 ++ [prs.getLast pne]
      have hrok : zlf m 3 rules := fun p hp => by
        rcases List.mem_append.mp hp with z | z
        · exact hok p z
        · simp at z; subst z; exact pok _ (List.getLast_mem pne)
      have hR : zec m rules := ⟨hrok, by simp [rules]; omega⟩
      have hR0 : rules ≠ [] := by simp [rules]
      have erules : rules0.map pairD ++ [pairD (prs.getLast pne)] = rules.map pairD := by simp [rules]
      simp only [zce, zty, zcw, zia, zcj, e_neg, e_c, zdp, zwl, zch, zby, zda, zd1]
      simp only [Option.some.injEq, exists_eq_left', List.getElem?_cons_zero, List.getElem?_cons_succ, Option.getD_some, List.set_cons_zero, List.set_cons_succ]
      refine ⟨zas (by simp; omega), 1, rfl, _, il, zas (by simp), zas (by simp; omega), ?_⟩
      rw [erules]
      generalize hrules : rules = rules at hR hR0
      refine za9 (znh h.p 36 (mo := 8) hm q7 (by omega) (by decide)) fun d M8 ⟨row, e8, hrow, l8, q8, k8⟩ => ?_
      subst e8
      have q8' : zbj M8 1 (i * 2000 + 900) := q8.mono (by omega)
      simp only [s_asgt, zd1, zcw, zdp, zcj, Option.some.injEq, exists_eq_left', List.getElem?_cons_zero, List.getElem?_cons_succ, Option.getD_some]
      refine za9 (zy9 h 22 q8' (by omega) hm hR hR0 hrow) fun d M9 ⟨q9, k9, qs, x, ss, here, ed, hqs, es, hx, hxf, hw⟩ => ?_
      subst ed
      refine ⟨_, _, rfl, rfl, ?_⟩
      simp only [zch, zby, zda, zd1, zcw, zdp, zcj, zib, zm3, e_c, ztx, Option.some.injEq, exists_eq_left', List.getElem?_cons_zero, List.getElem?_cons_succ, Option.getD_some, List.set_cons_zero, List.set_cons_succ]
      refine zx1.mpr ⟨_, es, ?_⟩
      simp only [zh0, List.length_map]
      rw [show ((ss.length : Int) + 1) = ((ss.length + 1 : Nat) : Int) by omega]
      have lss := hw.len
      have p8 := q8'.lt
      have keepx : ∀ {Ma Mb : Mem}, zbr 1 Ma Mb -> zbk Ma x here -> zbk Mb x here := fun kk hx => by
        rcases hx with e | ⟨q', rfl, e⟩
        · exact .inl e
        · refine .inr ⟨q', rfl, kk.get e ?_⟩
          rcases hxf with z | ⟨q'', z, hq⟩
          · cases z
          · cases z; omega
      refine tk h.p 37 q9 (by omega) (by omega) (by omega) fun at_ Ma hat qa ka => ?_
      have hxa := keepx ka hx
      have esa : Ma[qs]? = some (ss.map Stp.d) := ka.get es (by omega)
      have ehere : ends m here = ends m row := (zjw hm hR ss hrow hw.st).2
      have lh := hw.ok.1
      have lh2 := hw.hl
      have lrow := hrow.1
      obtain ⟨half, eh1, eh2⟩ : ∃ half, zcb rules (ss.take at_) row = some half /\ zcb rules (ss.drop at_) half = some here := by
        have e := hw.st
        rw [<- List.take_append_drop at_ ss, zfq] at e
        cases c : zcb rules (ss.take at_) row with
        | none => rw [c] at e; cases e
        | some half => rw [c] at e; exact ⟨half, rfl, e⟩
      have hhalf := (zjw hm hR _ hrow eh1).1
      rw [zht h.r 38 hR]
      refine zhj.mpr (zce.mpr ⟨zas (by simp; omega), rfl, rfl, (zrt esa).mpr ⟨zas (by simp; omega), ?_⟩⟩)
      rw [<- List.map_take]
      refine za9 (zgx h.m h.a h.r 24 (M := Ma) .l hm hR hrow (by simp; omega) eh1) fun d Mb ⟨Sb, qb, ed, hqb, eb⟩ => ?_
      subst ed
      have esb := Sb.get esa
      have hxb := hxa.sub Sb
      simp only [zkn, zmb, zm2, zd1, zcw, zdp, zcj, ztx, e_c, Option.some.injEq, exists_eq_left', List.getElem?_cons_zero, List.getElem?_cons_succ, Option.getD_some]
      rw [zht h.r 38 hR]
      refine ⟨rfl, rfl, (zw4 esb).mpr ⟨zas (by simp; omega), ?_⟩⟩
      rw [<- List.map_drop]
      refine za9 (zgx h.m h.a h.r 24 (M := Mb) (zbk.c eb) hm hR hhalf (by simp; omega) eh2) fun d Mc ⟨Sc, qc, ed, hqc, ec⟩ => ?_
      subst ed
      have esc := Sc.get esb
      have hxc := hxb.sub Sc
      refine ⟨false, by rw [zla (zbk.c ec) hxc]; simp, false, rfl, ?_⟩
      rw [if_neg (by simp)]
      simp only [zmm, zch, zby, zkn, zmb, zm2, zd1, zcw, zdp, zcj, zm3, Option.some.injEq, exists_eq_left', List.getElem?_cons_zero, List.getElem?_cons_succ, Option.getD_some]
      rw [zht h.r 38 hR]
      refine zhj.mpr (zce.mpr ⟨zas (by simp; omega), (zvy esc).mpr (zce.mpr ⟨zas (by simp; omega), ?_⟩)⟩)
      refine za9 (zgx h.m h.a h.r 24 (M := Mc) .l hm hR hrow (by omega) hw.st) fun d Md ⟨Sd, qd, ed, hqd, edd⟩ => ?_
      subst ed
      have esd := Sd.get esc
      have hxd := hxc.sub Sd
      refine ⟨false, by rw [zla (zbk.c edd) hxd]; simp, false, rfl, ?_⟩
      rw [if_neg (by simp)]
      simp only [zmm, zch, zby, zda, zq8, w_seq, e_rev, zcj, Option.some.injEq, exists_eq_left', List.getElem?_cons_zero, List.getElem?_cons_succ, Option.getD_some]
      refine (zw7 esd).mpr (zce.mpr ⟨zas (by simp; omega), rfl, ?_⟩)
      rw [<- List.map_reverse]
      refine zhz (ds := ss.reverse.map Stp.d) (fun d => match d with | .tup [a, b, .bl c] => .tup [a, b, .bl (!c)] | _ => .non) (zas (by simp; omega)) rfl ?_ ?_
      · intro d hd
        obtain ⟨s0, _, rfl⟩ := List.mem_map.mp hd
        refine ⟨_, rfl, zba ?_⟩
        simp [Stp.d]
        have z3 : 3 ≤ sz := zas (by decide)
        cases s0.back <;> simp [z3]
      refine zce.mpr ⟨zas (by rw [List.length_map, List.length_map, List.length_reverse]; omega), ?_⟩
      have ehome : (ss.reverse.map Stp.d).map (fun d => match d with | .tup [a, b, .bl c] => D.tup [a, b, .bl (!c)] | _ => .non) = (ss.reverse.map Stp.rev).map Stp.d := by
        rw [List.map_map, List.map_map]
        refine List.map_congr_left fun s0 _ => rfl
      rw [ehome]
      simp only [zch, zby, zkn, zmb, zm2, zd1, zcw, zdp, zcj, zm3, Option.some.injEq, exists_eq_left', List.getElem?_cons_zero, List.getElem?_cons_succ, Option.getD_some, List.set_cons_zero, List.set_cons_succ]
      rw [zht h.r 38 hR]
      refine hxd.list.mpr (zce.mpr ⟨zas (by simp; omega), ?_⟩)
      refine za9 (zgx h.m h.a h.r 24 (M := Md) .l hm hR hw.ok (by simp; omega) (zmd hR ss hrow hw.st)) fun d Me ⟨Se, qe, ed, hqe, ee⟩ => ?_
      subst ed
      have hxe := hxd.sub Se
      refine ⟨false, by rw [zla (zbk.c ee) zbk.l]; simp, false, rfl, ?_⟩
      rw [if_neg (by simp)]
      simp only [zmm, zch, zby, zkn, t_or, zmb, zm2, zd1, zcw, zdp, zcj, e_c, Option.some.injEq, exists_eq_left', List.getElem?_cons_zero, List.getElem?_cons_succ, Option.getD_some]
      refine za9 (zgy h.m h.a 27 zbk.l hxe hm hrow hw.ok) fun d Mf ⟨ed, Sf⟩ => ?_
      rw [zgi.mpr ehere.symm] at ed
      subst ed
      refine ⟨false, rfl, false, rfl, ?_⟩
      rw [if_neg (by simp)]
      have hxf' := hxe.sub Sf
      simp only [zty, zcw, e_tup, zdp, zcj, zce, Option.some.injEq, exists_eq_left', List.getElem?_cons_zero, List.getElem?_cons_succ, Option.getD_some]
      refine ⟨zas (by simp), zas (by simp), ?_⟩
      refine za9 (zkl h.m h.a h.r 25 (M := Mf) (rules := [(row, here)]) (.cons ⟨_, _, rfl, .l, hxf'⟩ .nil) hm (fun p hp => by simp at hp; subst hp; exact ⟨hrow, hw.ok, ehere.symm⟩)) fun d Mg ⟨ed, Sg⟩ => ?_
      subst ed
      refine ⟨false, rfl, false, rfl, ?_⟩
      rw [if_neg (by simp)]
      have hxg := hxf'.sub Sg
      have S1 : Sub Ma Mg := (((((Sb.trans Sc).trans Sd).trans Se).trans Sf).trans Sg)
      have qg : zbj Mg 1 (i * 2000 + 1000) := (S1.pen qa).mono (by omega)
      simp only [zmm, zch, zby, zda, zkn, zmb, zm2, zib, zd1, zcw, zdp, zcj, e_c, Option.some.injEq, exists_eq_left', List.getElem?_cons_zero, List.getElem?_cons_succ, Option.getD_some, List.set_cons_zero, List.set_cons_succ]
      refine za9 (znh h.p 36 (mo := 4) hm qg (by omega) (by decide)) fun d Mh ⟨sm, eh, hsm, lsm, qh, kh⟩ => ?_
      subst eh
      have hxh := keepx kh hxg
      have hrk : ∀ {l : List Nat}, l.length ≤ 40 -> (∀ j ∈ l, j ∈ sm \/ j ∈ row \/ j ∈ here) -> zb3 m l := fun hl hj => ⟨hl, fun j z => by
        rcases hj j z with q | q | q
        · exact hsm.2 j q
        · exact hrow.2 j q
        · exact hw.ok.2 j q⟩
      have r1 : zb3 m (sm ++ row) := hrk (by simp; omega) fun j z => by rcases List.mem_append.mp z with q | q <;> simp [q]
      have r2 : zb3 m (sm ++ here) := hrk (by simp; omega) fun j z => by rcases List.mem_append.mp z with q | q <;> simp [q]
      have r3 : zb3 m (row ++ sm) := hrk (by simp; omega) fun j z => by rcases List.mem_append.mp z with q | q <;> simp [q]
      have r4 : zb3 m (here ++ sm) := hrk (by simp; omega) fun j z => by rcases List.mem_append.mp z with q | q <;> simp [q]
      have en1 : ends m (sm ++ row) = ends m (sm ++ here) := by
        have := zl1 (a := row) (b := here) (y := []) hm hsm.2 ehere.symm
        simpa using this
      have en2 : ends m (row ++ sm) = ends m (here ++ sm) := by
        have := zl1 (a := row) (b := here) (x := []) (y := sm) hm (fun j z => by cases z) ehere.symm
        simpa using this
      refine (zm9 .l .l).mpr ⟨zas (by simp; omega), (zm9 .l hxh).mpr ⟨zas (by simp; omega), ?_⟩⟩
      refine za9 (zgy h.m h.a 27 (M := Mh) .l .l hm r1 r2) fun d Mi ⟨ed, Si⟩ => ?_
      rw [zgi.mpr en1] at ed
      subst ed
      refine ⟨false, rfl, false, rfl, ?_⟩
      rw [if_neg (by simp)]
      have hxi := hxh.sub Si
      refine (zm9 .l .l).mpr ⟨zas (by simp; omega), (zm9 hxi .l).mpr ⟨zas (by simp; omega), ?_⟩⟩
      refine za9 (zgy h.m h.a 27 (M := Mi) .l .l hm r3 r4) fun d Mj ⟨ed, Sj⟩ => ?_
      rw [zgi.mpr en2] at ed
      subst ed
      refine ⟨false, rfl, false, rfl, ?_⟩
      rw [if_neg (by simp)]
      have hxj := hxi.sub Sj
      have bh := sp_beh h.m h.a.h15 h.a.h27 h.a.h46 28 (M := Mj) hm hrow
      unfold zep at bh
      rw [bh]
      have bh2 := ziz h.m h.a.h15 h.a.h27 h.a.h46 28 (hxj.sub (Sub.app (X := (zcd m).map fun s => (zeo m row s).map zau))) hm hw.ok
      show okE (za0 P 39 27 [m.d, x] _) _
      rw [bh2]
      refine ⟨false, by rw [zoz, zoz, zwf, ehere]; simp, false, rfl, ?_⟩
      rw [if_neg (by simp)]
      refine ⟨_, rfl, ?_, _, _, _, _, _, _, _, _, _, _, _, rfl⟩
      exact (Sub.app.pen (Sub.app.pen (Sj.pen (Si.pen qh)))).mono (by omega)
    · rintro ρ M' ⟨q2, x2, x3, x4, x5, x6, x7, x8, x9, x10, x11, x12, rfl⟩
      simp
  obtain ⟨d, M, e, rfl⟩ := ztk.mp goal
  exact ⟨M, e⟩
end
end LD
namespace K15
open PySem PySem.Spec PyProof.Rows L2 LD
def top (i : Nat) : PySem.Stmt := PySem.Challenge.pw_leastdeeds_k15_whole_steps_there_and_bac.main.body.getD i (.Pass ⟨0, 0, 0, 0⟩)
abbrev zdy : PySem.Stmt := top 8
abbrev zfb : PySem.Stmt := top 16
abbrev zev : PySem.Stmt := top 17
abbrev zfh : PySem.Stmt := top 18
abbrev zdj : PySem.Stmt := top 19
abbrev zd6 : PySem.Stmt := top 20
abbrev zb9 : PySem.Stmt := top 21
abbrev zfc : PySem.Stmt := top 22
abbrev zff : PySem.Stmt := top 23
abbrev zfe : PySem.Stmt := top 24
abbrev zfy : PySem.Stmt := top 25
abbrev zfg : PySem.Stmt := top 27
abbrev zde : PySem.Stmt := top 28
abbrev zc7 : PySem.Stmt := top 29
abbrev zdf : PySem.Stmt := top 30
abbrev zcl : PySem.Stmt := top 31
abbrev zc6 : PySem.Stmt := top 32
abbrev zeu : PySem.Stmt := top 33
abbrev zft : PySem.Stmt := top 35
abbrev zfw : PySem.Stmt := top 36
abbrev zgq : PySem.Stmt := top 37
abbrev zfu : PySem.Stmt := top 38
abbrev zhg : PySem.Stmt := top 40
abbrev zc8 : PySem.Stmt := top 41
abbrev zes : PySem.Stmt := top 42
abbrev zed : PySem.Stmt := top 43
abbrev zfv : PySem.Stmt := top 45
abbrev zfx : PySem.Stmt := top 46
abbrev zfd : PySem.Stmt := top 47
abbrev zdx : PySem.Stmt := top 48
abbrev zdk : PySem.Stmt := top 49
abbrev zfa : PySem.Stmt := top 50
abbrev zdl : PySem.Stmt := top 52
abbrev zeg : PySem.Stmt := top 53
abbrev zei : PySem.Stmt := top 54
abbrev zef : PySem.Stmt := top 55
abbrev zc4 : PySem.Stmt := top 56
abbrev zds : PySem.Stmt := top 57
abbrev zc9 : PySem.Stmt := top 58
abbrev zd7 : PySem.Stmt := top 59
abbrev zdz : PySem.Stmt := top 60
abbrev zci : PySem.Stmt := top 61
abbrev zeh : PySem.Stmt := top 62
abbrev zb5 : PySem.Stmt := top 63
abbrev zcs : PySem.Stmt := top 64
abbrev zcr : PySem.Stmt := top 65
abbrev zee : PySem.Stmt := top 66
abbrev zgw : PySem.Stmt := top 67
theorem nd0 : (["thing", "low", "high"] : List Str).Nodup := by decide +kernel
theorem nd1 : (["words", "thing"] : List Str).Nodup := by decide +kernel
theorem nd2 : (["places", "thing"] : List Str).Nodup := by decide +kernel
theorem nd3 : (["thing"] : List Str).Nodup := by decide +kernel
theorem nd4 : (["long", "thing"] : List Str).Nodup := by decide +kernel
theorem nd5 : (["words", "thing"] : List Str).Nodup := by decide +kernel
theorem nd6 : (["word", "words", "thing"] : List Str).Nodup := by decide +kernel
theorem nd7 : (["words", "thing"] : List Str).Nodup := by decide +kernel
theorem nd8 : (["table", "words", "thing"] : List Str).Nodup := by decide +kernel
theorem nd9 : (["words", "places", "parts", "at", "table", "price"] : List Str).Nodup := by decide +kernel
theorem nd10 : (["words", "places", "parts", "at", "other", "table", "price"] : List Str).Nodup := by decide +kernel
theorem nd11 : (["words", "places", "parts", "at", "other", "price"] : List Str).Nodup := by decide +kernel
theorem nd12 : (["words", "places", "parts", "at", "word", "price"] : List Str).Nodup := by decide +kernel
theorem nd13 : (["words", "places", "thing", "sort", "is_sort"] : List Str).Nodup := by decide +kernel
theorem nd14 : (["thing", "words", "places", "deeds"] : List Str).Nodup := by decide +kernel
theorem nd15 : (["deed", "thing", "words", "places", "deeds"] : List Str).Nodup := by decide +kernel
theorem nd16 : (["thing"] : List Str).Nodup := by decide +kernel
theorem nd17 : (["machine", "words", "places", "deeds", "starts", "place"] : List Str).Nodup := by decide +kernel
theorem nd18 : (["start", "word", "machine", "words", "places", "deeds", "starts", "place"] : List Str).Nodup := by decide +kernel
theorem nd19 : (["machine", "thing"] : List Str).Nodup := by decide +kernel
theorem nd20 : (["machine", "row", "place", "thing"] : List Str).Nodup := by decide +kernel
theorem nd21 : (["machine", "row"] : List Str).Nodup := by decide +kernel
theorem nd22 : (["deed", "standing", "sort", "at", "table", "price"] : List Str).Nodup := by decide +kernel
theorem nd23 : (["deed", "standing", "sort", "at", "other", "table", "price"] : List Str).Nodup := by decide +kernel
theorem nd24 : (["deed", "standing", "sort", "at", "other", "price"] : List Str).Nodup := by decide +kernel
theorem nd25 : (["deed", "standing", "sort", "at", "word", "price"] : List Str).Nodup := by decide +kernel
theorem nd26 : (["deed", "standing", "new_word", "at"] : List Str).Nodup := by decide +kernel
theorem nd27 : (["machine", "row", "beginning", "standings", "number"] : List Str).Nodup := by decide +kernel
theorem nd28 : (["machine", "row"] : List Str).Nodup := by decide +kernel
theorem nd29 : (["start", "machine", "row"] : List Str).Nodup := by decide +kernel
theorem nd30 : (["machine", "row"] : List Str).Nodup := by decide +kernel
theorem nd31 : (["machine", "one", "other", "one_ends", "other_ends", "start", "one_end", "other_end"] : List Str).Nodup := by decide +kernel
theorem nd32 : (["machine", "thing"] : List Str).Nodup := by decide +kernel
theorem nd33 : (["machine", "thing", "one", "other"] : List Str).Nodup := by decide +kernel
theorem nd34 : (["machine", "rules", "number", "rule"] : List Str).Nodup := by decide +kernel
theorem nd35 : (["rules", "row", "step", "place", "number", "back", "given", "taken", "beyond", "made"] : List Str).Nodup := by decide +kernel
theorem nd36 : (["machine", "rules", "row", "steps", "standing", "place", "step", "made"] : List Str).Nodup := by decide +kernel
theorem nd37 : (["cell", "at", "primes", "one", "two", "three"] : List Str).Nodup := by decide +kernel
theorem nd38 : (["script", "cells", "k", "cell"] : List Str).Nodup := by decide +kernel
theorem nd39 : (["pen"] : List Str).Nodup := by decide +kernel
theorem nd40 : (["pen", "many", "at", "cell", "found"] : List Str).Nodup := by decide +kernel
theorem nd41 : (["pen", "words", "kind", "word", "other", "found"] : List Str).Nodup := by decide +kernel
theorem nd42 : (["k", "pen", "words", "kind", "word", "other", "found"] : List Str).Nodup := by decide +kernel
theorem nd43 : (["k", "pen", "words", "kind", "word", "other", "found"] : List Str).Nodup := by decide +kernel
theorem nd44 : (["k", "pen", "words", "kind", "word", "other", "found"] : List Str).Nodup := by decide +kernel
theorem nd45 : (["pen", "words", "places", "kind", "price", "at", "other"] : List Str).Nodup := by decide +kernel
theorem nd46 : (["k", "pen", "words", "places", "kind", "price", "at", "other"] : List Str).Nodup := by decide +kernel
theorem zkt : (["pen", "words", "places", "most", "deeds", "k", "again", "deed"] : List Str).Nodup := by decide +kernel
theorem nd48 : (["pen", "machine", "most", "kind", "many", "found"] : List Str).Nodup := by decide +kernel
theorem nd49 : (["k", "pen", "machine", "most", "kind", "many", "found"] : List Str).Nodup := by decide +kernel
theorem nd50 : (["deed", "end", "here", "own"] : List Str).Nodup := by decide +kernel
theorem nd51 : (["machine"] : List Str).Nodup := by decide +kernel
theorem nd52 : (["k", "machine"] : List Str).Nodup := by decide +kernel
theorem nd53 : (["word", "machine"] : List Str).Nodup := by decide +kernel
theorem nd54 : (["machine", "row", "found", "end", "number"] : List Str).Nodup := by decide +kernel
theorem nd55 : (["pen", "machine", "some", "found", "k", "one", "other"] : List Str).Nodup := by decide +kernel
theorem nd56 : (["k", "pen", "machine", "some", "found", "k%", "one", "other"] : List Str).Nodup := by decide +kernel
theorem nd57 : (["rules"] : List Str).Nodup := by decide +kernel
theorem nd58 : (["one", "other", "rules"] : List Str).Nodup := by decide +kernel
theorem nd59 : (["rules", "row", "number", "back", "old", "new", "found"] : List Str).Nodup := by decide +kernel
theorem nd60 : (["place", "rules", "row", "number", "back", "old", "new", "found"] : List Str).Nodup := by decide +kernel
theorem zj3 : (["pen", "machine", "rules", "row", "steps", "here", "k", "number", "back", "found", "step"] : List Str).Nodup := by decide +kernel
theorem zh2 : (["script", "pen", "turn", "machine", "good", "rules", "row", "steps", "here", "at", "half", "home", "some"] : List Str).Nodup := by decide +kernel
theorem nd63 : (["place", "number", "back", "script", "pen", "turn", "machine", "good", "rules", "row", "steps", "here", "at", "half", "home", "some"] : List Str).Nodup := by decide +kernel
theorem nd64 : (["k", "script", "pen", "turn", "machine", "good", "rules", "row", "steps", "here", "at", "half", "home", "some"] : List Str).Nodup := by decide +kernel
def Pg : Nat -> Option Df
  | 0 => some ⟨3, 3, zg8⟩
  | 1 => some ⟨2, 2, zja⟩
  | 2 => some ⟨2, 2, zie⟩
  | 3 => some ⟨1, 1, zjf⟩
  | 4 => some ⟨2, 2, zfp⟩
  | 5 => some ⟨2, 2, zid⟩
  | 6 => some ⟨2, 2, ze0⟩
  | 7 => some ⟨3, 6, zjb⟩
  | 8 => some ⟨3, 7, zje⟩
  | 9 => some ⟨3, 6, zjd⟩
  | 10 => some ⟨3, 6, zke⟩
  | 11 => some ⟨3, 5, zf4⟩
  | 12 => some ⟨1, 4, zg7⟩
  | 13 => some ⟨1, 1, zgd⟩
  | 15 => some ⟨1, 6, zdc⟩
  | 16 => some ⟨2, 2, zfm⟩
  | 17 => some ⟨2, 4, zgc⟩
  | 18 => some ⟨2, 2, zic⟩
  | 20 => some ⟨2, 6, zj9⟩
  | 21 => some ⟨2, 7, zkc⟩
  | 22 => some ⟨2, 6, zld⟩
  | 23 => some ⟨2, 6, zka⟩
  | 24 => some ⟨2, 4, zm7⟩
  | 25 => some ⟨3, 5, zge⟩
  | 27 => some ⟨2, 2, zez⟩
  | 28 => some ⟨2, 6, zgl⟩
  | 29 => some ⟨1, 4, zho⟩
  | 30 => some ⟨1, 1, zhq⟩
  | 31 => some ⟨2, 5, zjj⟩
  | 32 => some ⟨2, 6, zif⟩
  | 33 => some ⟨3, 7, zhp⟩
  | 34 => some ⟨4, 8, zgf⟩
  | 35 => some ⟨3, 6, zig⟩
  | 41 => some ⟨2, 4, zg9⟩
  | 42 => some ⟨1, 1, zgo⟩
  | 44 => some ⟨2, 5, zd9⟩
  | 46 => some ⟨2, 2, ze9⟩
  | 48 => some ⟨3, 8, zkb⟩
  | 49 => some ⟨2, 7, zcy⟩
  | 52 => some ⟨2, 2, zkd⟩
  | 53 => some ⟨2, 4, zjc⟩
  | 54 => some ⟨2, 4, zg6⟩
  | 55 => some ⟨3, 10, zgk⟩
  | 56 => some ⟨4, 8, zi9⟩
  | 57 => some ⟨1, 1, zgn⟩
  | 61 => some ⟨4, 7, zgm⟩
  | 62 => some ⟨4, 11, zhn⟩
  | 63 => some ⟨1, 13, zle⟩
  | _ => none
end K15
set_option maxHeartbeats 4000000
namespace K15
open PySem PySem.Spec PyProof.Rows L2 LD
structure Txt (K : PySem.W.Frag) (w : World) (mg : Str -> Option Value) (fa : Fa) : Prop where
  b_all : mg "all" = none
  b_bool : mg "bool" = none
  b_enumerate : mg "enumerate" = none
  b_int : mg "int" = none
  b_isinstance : mg "isinstance" = none
  b_len : mg "len" = none
  b_list : mg "list" = none
  b_range : mg "range" = none
  b_str : mg "str" = none
  b_tuple : mg "tuple" = none
  b_zip : mg "zip" = none
  c_LEAST_WORDS : ∃ t, mg "LEAST_WORDS" = some (.int 2 t)
  c_LONGEST_ROW : ∃ t, mg "LONGEST_ROW" = some (.int 40 t)
  c_MOST_COST : ∃ t, mg "MOST_COST" = some (.int 3 t)
  c_MOST_DEEDS : ∃ t, mg "MOST_DEEDS" = some (.int 6 t)
  c_MOST_PLACES : ∃ t, mg "MOST_PLACES" = some (.int 2 t)
  c_MOST_WORDS : ∃ t, mg "MOST_WORDS" = some (.int 4 t)
  d_NEW_WORDS : ∃ ad kvs, mg "NEW_WORDS" = some (.ref ad) /\ zhr K w.params ad kvs /\ zfn fa kvs zdt
  d_SORTS : ∃ ad kvs, mg "SORTS" = some (.ref ad) /\ zhr K w.params ad kvs /\ zfn fa kvs zd0
  f_is_between : ∀ ad, fa 0 = some ad -> mg "is_between" = some (.ref ad)
  f_is_word : ∀ ad, fa 1 = some ad -> mg "is_word" = some (.ref ad)
  f_is_place : ∀ ad, fa 2 = some ad -> mg "is_place" = some (.ref ad)
  f_is_cost : ∀ ad, fa 3 = some ad -> mg "is_cost" = some (.ref ad)
  f_is_tuple_of : ∀ ad, fa 4 = some ad -> mg "is_tuple_of" = some (.ref ad)
  f_is_table : ∀ ad, fa 5 = some ad -> mg "is_table" = some (.ref ad)
  f_is_double_table : ∀ ad, fa 6 = some ad -> mg "is_double_table" = some (.ref ad)
  f_is_deed : ∀ ad, fa 11 = some ad -> mg "is_deed" = some (.ref ad)
  f_is_machine : ∀ ad, fa 12 = some ad -> mg "is_machine" = some (.ref ad)
  f_need_machine : ∀ ad, fa 13 = some ad -> mg "need_machine" = some (.ref ad)
  f_beginnings : ∀ ad, fa 15 = some ad -> mg "beginnings" = some (.ref ad)
  f_is_deed_number : ∀ ad, fa 16 = some ad -> mg "is_deed_number" = some (.ref ad)
  f_need_numbers : ∀ ad, fa 17 = some ad -> mg "need_numbers" = some (.ref ad)
  f_need_row : ∀ ad, fa 18 = some ad -> mg "need_row" = some (.ref ad)
  f_done : ∀ ad, fa 24 = some ad -> mg "done" = some (.ref ad)
  f_all_standing : ∀ ad, fa 25 = some ad -> mg "all_standing" = some (.ref ad)
  f_behaviour : ∀ ad, fa 27 = some ad -> mg "behaviour" = some (.ref ad)
  f__law_spread : ∀ ad, fa 28 = some ad -> mg "_law_spread" = some (.ref ad)
  f__law_open : ∀ ad, fa 29 = some ad -> mg "_law_open" = some (.ref ad)
  f__law_anew : ∀ ad, fa 30 = some ad -> mg "_law_anew" = some (.ref ad)
  f__law_take : ∀ ad, fa 31 = some ad -> mg "_law_take" = some (.ref ad)
  f__law_tab : ∀ ad, fa 32 = some ad -> mg "_law_tab" = some (.ref ad)
  f__law_deed : ∀ ad, fa 33 = some ad -> mg "_law_deed" = some (.ref ad)
  f__law_machine : ∀ ad, fa 34 = some ad -> mg "_law_machine" = some (.ref ad)
  f__law_row : ∀ ad, fa 35 = some ad -> mg "_law_row" = some (.ref ad)
  f__law_after : ∀ ad, fa 41 = some ad -> mg "_law_after" = some (.ref ad)
  f__law_begins : ∀ ad, fa 42 = some ad -> mg "_law_begins" = some (.ref ad)
  f__law_ends : ∀ ad, fa 44 = some ad -> mg "_law_ends" = some (.ref ad)
  f_ends_of : ∀ ad, fa 46 = some ad -> mg "ends_of" = some (.ref ad)
  f_parted : ∀ ad, fa 48 = some ad -> mg "parted" = some (.ref ad)
  f__law_alike_pairs : ∀ ad, fa 49 = some ad -> mg "_law_alike_pairs" = some (.ref ad)
  f_is_row : ∀ ad, fa 52 = some ad -> mg "is_row" = some (.ref ad)
  f_is_rule : ∀ ad, fa 53 = some ad -> mg "is_rule" = some (.ref ad)
  f_need_rules : ∀ ad, fa 54 = some ad -> mg "need_rules" = some (.ref ad)
  f_behind_step : ∀ ad, fa 55 = some ad -> mg "behind_step" = some (.ref ad)
  f_stepped : ∀ ad, fa 56 = some ad -> mg "stepped" = some (.ref ad)
  f__law_copied : ∀ ad, fa 57 = some ad -> mg "_law_copied" = some (.ref ad)
  f__law_places : ∀ ad, fa 61 = some ad -> mg "_law_places" = some (.ref ad)
  f__law_walk : ∀ ad, fa 62 = some ad -> mg "_law_walk" = some (.ref ad)
theorem boot_bool : bootBuiltins "bool" = some (.type (tyName .bool)) := by decide +kernel
theorem boot_int : bootBuiltins "int" = some (.type (tyName .int)) := by decide +kernel
theorem boot_list : bootBuiltins "list" = some (.type (tyName .list)) := by decide +kernel
theorem boot_str : bootBuiltins "str" = some (.type (tyName .str)) := by decide +kernel
theorem boot_tuple : bootBuiltins "tuple" = some (.type (tyName .tuple)) := by decide +kernel
section
variable {fa : Fa} {P : Program} {w : World} {K : PySem.W.Frag} {mg : Str -> Option Value} {base : Heap}
theorem zo5 : za3 ["thing", "low", "high"] ["thing", "low", "high"] (zaf zdy) := ⟨rfl, rfl, rfl, nd0, rfl, by decide +kernel, by decide +kernel⟩
variable (T : Txt K w mg fa) {ad : Addr} (c : Call) (n : Nat) (cdv : Value) (A : Around) (outer : List PySem.Env) (s : Shared) (H : Hp) (E : XK) (C : ∀ f, zhc fa P w K mg base n f (c f))
include T C in
theorem zqi (hr : zbe n (A.deeper (envOfC "is_between" (zaf zdy) s.heap.objs.size ad cdv))) :
    DSs fa (zbu CX0 P w K mg base ["thing", "low", "high"] "is_between" (zaf zdy) ad cdv A outer s H E).nox (zaz zdy) (zg8 c) := by
  have hu : (A.deeper (envOfC "is_between" (zaf zdy) s.heap.objs.size ad cdv)).units + 100 < cLine := by have := hr.un; omega
  exact zag (zbo (q_w (zkq (zd4 (zir .bool (fun _ h => nomatch h) (zac (i := 0) rfl (.inl rfl) rfl rfl) rfl T.b_isinstance rfl T.b_bool boot_bool (by decide) rfl rfl) (fun _ => rfl)) (zi3 (zem (zd4 (zir .int (fun _ h => nomatch h) (zac (i := 0) rfl (.inl rfl) rfl rfl) rfl T.b_isinstance rfl T.b_int boot_int (by decide) rfl rfl) (fun _ => rfl)))))) (zag (za4 (zew)) (zak)) (zak)) (zag (za4 (r_chn hu .le .le (zac (i := 1) rfl (.inl rfl) rfl rfl) (zac (i := 0) rfl (.inl rfl) rfl rfl) (zac (i := 2) rfl (.inl rfl) rfl rfl) rfl)) (zak))
theorem zs1 : za3 ["words", "thing"] ["words", "thing"] (zaf zfb) := ⟨rfl, rfl, rfl, nd1, rfl, by decide +kernel, by decide +kernel⟩
include T C in
theorem zvk (hr : zbe n (A.deeper (envOfC "is_word" (zaf zfb) s.heap.objs.size ad cdv))) :
    DSs fa (zbu CX0 P w K mg base ["words", "thing"] "is_word" (zaf zfb) ad cdv A outer s H E).nox (zaz zfb) (zja c) := by
  have hu : (A.deeper (envOfC "is_word" (zaf zfb) s.heap.objs.size ad cdv)).units + 100 < cLine := by have := hr.un; omega
  exact zag (za4 (zan 0 C hr rfl T.f_is_between (zae (zac (i := 1) rfl (.inl rfl) rfl rfl) (zae (zal) (zae (zaw false .sub (zac (i := 0) rfl (.inl rfl) rfl rfl) (zal)) (zaj) rfl) rfl) rfl) rfl rfl rfl)) (zak)
theorem zrw : za3 ["places", "thing"] ["places", "thing"] (zaf zev) := ⟨rfl, rfl, rfl, nd2, rfl, by decide +kernel, by decide +kernel⟩
include T C in
theorem zte (hr : zbe n (A.deeper (envOfC "is_place" (zaf zev) s.heap.objs.size ad cdv))) :
    DSs fa (zbu CX0 P w K mg base ["places", "thing"] "is_place" (zaf zev) ad cdv A outer s H E).nox (zaz zev) (zie c) := by
  have hu : (A.deeper (envOfC "is_place" (zaf zev) s.heap.objs.size ad cdv)).units + 100 < cLine := by have := hr.un; omega
  exact zag (za4 (zan 0 C hr rfl T.f_is_between (zae (zac (i := 1) rfl (.inl rfl) rfl rfl) (zae (zal) (zae (zaw false .sub (zac (i := 0) rfl (.inl rfl) rfl rfl) (zal)) (zaj) rfl) rfl) rfl) rfl rfl rfl)) (zak)
theorem zs7 : za3 ["thing"] ["thing"] (zaf zfh) := ⟨rfl, rfl, rfl, nd3, rfl, by decide +kernel, by decide +kernel⟩
include T C in
theorem zvq (hr : zbe n (A.deeper (envOfC "is_cost" (zaf zfh) s.heap.objs.size ad cdv))) :
    DSs fa (zbu CX0 P w K mg base ["thing"] "is_cost" (zaf zfh) ad cdv A outer s H E).nox (zaz zfh) (zjf c) := by
  have hu : (A.deeper (envOfC "is_cost" (zaf zfh) s.heap.objs.size ad cdv)).units + 100 < cLine := by have := hr.un; omega
  exact zag (za4 (zan 0 C hr rfl T.f_is_between (zae (zac (i := 0) rfl (.inl rfl) rfl rfl) (zae (zal) (zae (zhi (i := 3) rfl T.c_MOST_COST rfl) (zaj) rfl) rfl) rfl) rfl rfl rfl)) (zak)
theorem zni : za3 ["long", "thing"] ["long", "thing"] (zaf zdj) := ⟨rfl, rfl, rfl, nd4, rfl, by decide +kernel, by decide +kernel⟩
include T C in
theorem zo8 (hr : zbe n (A.deeper (envOfC "is_tuple_of" (zaf zdj) s.heap.objs.size ad cdv))) :
    DSs fa (zbu CX0 P w K mg base ["long", "thing"] "is_tuple_of" (zaf zdj) ad cdv A outer s H E).nox (zaz zdj) (zfp c) := by
  have hu : (A.deeper (envOfC "is_tuple_of" (zaf zdj) s.heap.objs.size ad cdv)).units + 100 < cLine := by have := hr.un; omega
  exact zag (za4 (zgh (zir .tuple (fun _ h => nomatch h) (zac (i := 1) rfl (.inl rfl) rfl rfl) rfl T.b_isinstance rfl T.b_tuple boot_tuple (by decide) rfl rfl) (zi2 (zs9 hu .eq (zco rfl T.b_len (zae (zac (i := 1) rfl (.inl rfl) rfl rfl) (zaj) rfl) rfl rfl) (zac (i := 0) rfl (.inl rfl) rfl rfl) rfl)))) (zak)
theorem zrv : za3 ["words", "thing"] ["words", "thing"] (zaf zd6) := ⟨rfl, rfl, rfl, nd5, rfl, by decide +kernel, by decide +kernel⟩
include T C in
theorem ztd (hr : zbe n (A.deeper (envOfC "is_table" (zaf zd6) s.heap.objs.size ad cdv))) :
    DSs fa (zbu CX0 P w K mg base ["words", "thing"] "is_table" (zaf zd6) ad cdv A outer s H E).nox (zaz zd6) (zid c) := by
  have hu : (A.deeper (envOfC "is_table" (zaf zd6) s.heap.objs.size ad cdv)).units + 100 < cLine := by have := hr.un; omega
  exact zag (za4 (zgh (zan 4 C hr rfl T.f_is_tuple_of (zae (zac (i := 0) rfl (.inr (.inl rfl)) rfl rfl) (zae (zac (i := 1) rfl (.inl rfl) rfl rfl) (zaj) rfl) rfl) rfl rfl rfl) (zi2 (zta rfl rfl T.b_all (zae (zea false (zca (own := ["word"]) (bn := ["words", "thing"]) (sc := zaf zd6) (N := ["words", "thing"]) rfl rfl rfl (by decide +kernel)) rfl (zf3 (zac (i := 1) rfl (.inl rfl) rfl rfl)) (fun cl C0 fp s0 H0 => zao (i := 0) nd6 rfl (.inl rfl) (.inr rfl)) (fun cl C0 fp s0 H0 => zan 1 C hr rfl T.f_is_word (zae (zac (i := 1) rfl (.inr (.inl rfl)) rfl rfl) (zae (zac (i := 0) rfl (.inl rfl) rfl rfl) (zaj) rfl) rfl) rfl rfl rfl) rfl (fun _ => rfl)) (zaj) rfl) rfl rfl)))) (zak)
theorem zkm : za3 ["words", "thing"] ["words", "thing"] (zaf zb9) := ⟨rfl, rfl, rfl, nd7, rfl, by decide +kernel, by decide +kernel⟩
include T C in
theorem zlh (hr : zbe n (A.deeper (envOfC "is_double_table" (zaf zb9) s.heap.objs.size ad cdv))) :
    DSs fa (zbu CX0 P w K mg base ["words", "thing"] "is_double_table" (zaf zb9) ad cdv A outer s H E).nox (zaz zb9) (ze0 c) := by
  have hu : (A.deeper (envOfC "is_double_table" (zaf zb9) s.heap.objs.size ad cdv)).units + 100 < cLine := by have := hr.un; omega
  exact zag (za4 (zgh (zan 4 C hr rfl T.f_is_tuple_of (zae (zac (i := 0) rfl (.inr (.inl rfl)) rfl rfl) (zae (zac (i := 1) rfl (.inl rfl) rfl rfl) (zaj) rfl) rfl) rfl rfl rfl) (zi2 (zta rfl rfl T.b_all (zae (zea false (zca (own := ["table"]) (bn := ["words", "thing"]) (sc := zaf zb9) (N := ["words", "thing"]) rfl rfl rfl (by decide +kernel)) rfl (zf3 (zac (i := 1) rfl (.inl rfl) rfl rfl)) (fun cl C0 fp s0 H0 => zao (i := 0) nd8 rfl (.inl rfl) (.inr rfl)) (fun cl C0 fp s0 H0 => zan 5 C hr rfl T.f_is_table (zae (zac (i := 1) rfl (.inr (.inl rfl)) rfl rfl) (zae (zac (i := 0) rfl (.inl rfl) rfl rfl) (zaj) rfl) rfl) rfl rfl rfl) rfl (fun _ => rfl)) (zaj) rfl) rfl rfl)))) (zak)
theorem zs2 : za3 ["words", "places", "parts", "at", "table", "price"] ["words", "places", "parts"] (zaf zfc) := ⟨rfl, rfl, rfl, nd9, rfl, by decide +kernel, by decide +kernel⟩
include T C in
theorem zvl (hr : zbe n (A.deeper (envOfC "is_turn" (zaf zfc) s.heap.objs.size ad cdv))) :
    DSs fa (zbu CX0 P w K mg base ["words", "places", "parts", "at", "table", "price"] "is_turn" (zaf zfc) ad cdv A outer s H E).nox (zaz zfc) (zjb c) := by
  have hu : (A.deeper (envOfC "is_turn" (zaf zfc) s.heap.objs.size ad cdv)).units + 100 < cLine := by have := hr.un; omega
  exact zag (zbo (zbx hu .ne (zco rfl T.b_len (zae (zac (i := 2) rfl (.inl rfl) rfl rfl) (zaj) rfl) rfl rfl) (zal) rfl) (zag (za4 (zew)) (zak)) (zak)) (zag (za1 (zac (i := 2) rfl (.inl rfl) rfl rfl) (zck (l := [3, 4, 5]) rfl nd9 (.cons rfl (.inl rfl) (.inl rfl) (.cons rfl (.inl rfl) (.inl rfl) (.cons rfl (.inl rfl) (.inl rfl) (.nil))))) rfl rfl rfl) (zag (za4 (zgh (zan 2 C hr rfl T.f_is_place (zae (zac (i := 1) rfl (.inl rfl) rfl rfl) (zae (zac (i := 3) rfl (.inl rfl) rfl rfl) (zaj) rfl) rfl) rfl rfl rfl) (zgh (zan 5 C hr rfl T.f_is_table (zae (zac (i := 0) rfl (.inl rfl) rfl rfl) (zae (zac (i := 4) rfl (.inl rfl) rfl rfl) (zaj) rfl) rfl) rfl rfl rfl) (zi2 (zan 3 C hr rfl T.f_is_cost (zae (zac (i := 5) rfl (.inl rfl) rfl rfl) (zaj) rfl) rfl rfl rfl))))) (zak)))
theorem zs5 : za3 ["words", "places", "parts", "at", "other", "table", "price"] ["words", "places", "parts"] (zaf zff) := ⟨rfl, rfl, rfl, nd10, rfl, by decide +kernel, by decide +kernel⟩
include T C in
theorem zvo (hr : zbe n (A.deeper (envOfC "is_join" (zaf zff) s.heap.objs.size ad cdv))) :
    DSs fa (zbu CX0 P w K mg base ["words", "places", "parts", "at", "other", "table", "price"] "is_join" (zaf zff) ad cdv A outer s H E).nox (zaz zff) (zje c) := by
  have hu : (A.deeper (envOfC "is_join" (zaf zff) s.heap.objs.size ad cdv)).units + 100 < cLine := by have := hr.un; omega
  exact zag (zbo (zbx hu .ne (zco rfl T.b_len (zae (zac (i := 2) rfl (.inl rfl) rfl rfl) (zaj) rfl) rfl rfl) (zal) rfl) (zag (za4 (zew)) (zak)) (zak)) (zag (za1 (zac (i := 2) rfl (.inl rfl) rfl rfl) (zck (l := [3, 4, 5, 6]) rfl nd10 (.cons rfl (.inl rfl) (.inl rfl) (.cons rfl (.inl rfl) (.inl rfl) (.cons rfl (.inl rfl) (.inl rfl) (.cons rfl (.inl rfl) (.inl rfl) (.nil)))))) rfl rfl rfl) (zag (zbo (q_w (zkq (zem (zd4 (zan 2 C hr rfl T.f_is_place (zae (zac (i := 1) rfl (.inl rfl) rfl rfl) (zae (zac (i := 3) rfl (.inl rfl) rfl rfl) (zaj) rfl) rfl) rfl rfl rfl) (fun _ => rfl))) (zi3 (zem (zd4 (zan 2 C hr rfl T.f_is_place (zae (zac (i := 1) rfl (.inl rfl) rfl rfl) (zae (zac (i := 4) rfl (.inl rfl) rfl rfl) (zaj) rfl) rfl) rfl rfl rfl) (fun _ => rfl)))))) (zag (za4 (zew)) (zak)) (zak)) (zag (za4 (zgh (zan 6 C hr rfl T.f_is_double_table (zae (zac (i := 0) rfl (.inl rfl) rfl rfl) (zae (zac (i := 5) rfl (.inl rfl) rfl rfl) (zaj) rfl) rfl) rfl rfl rfl) (zi2 (zan 3 C hr rfl T.f_is_cost (zae (zac (i := 6) rfl (.inl rfl) rfl rfl) (zaj) rfl) rfl rfl rfl)))) (zak))))
theorem zs4 : za3 ["words", "places", "parts", "at", "other", "price"] ["words", "places", "parts"] (zaf zfe) := ⟨rfl, rfl, rfl, nd11, rfl, by decide +kernel, by decide +kernel⟩
include T C in
theorem zvn (hr : zbe n (A.deeper (envOfC "is_move" (zaf zfe) s.heap.objs.size ad cdv))) :
    DSs fa (zbu CX0 P w K mg base ["words", "places", "parts", "at", "other", "price"] "is_move" (zaf zfe) ad cdv A outer s H E).nox (zaz zfe) (zjd c) := by
  have hu : (A.deeper (envOfC "is_move" (zaf zfe) s.heap.objs.size ad cdv)).units + 100 < cLine := by have := hr.un; omega
  exact zag (zbo (zbx hu .ne (zco rfl T.b_len (zae (zac (i := 2) rfl (.inl rfl) rfl rfl) (zaj) rfl) rfl rfl) (zal) rfl) (zag (za4 (zew)) (zak)) (zak)) (zag (za1 (zac (i := 2) rfl (.inl rfl) rfl rfl) (zck (l := [3, 4, 5]) rfl nd11 (.cons rfl (.inl rfl) (.inl rfl) (.cons rfl (.inl rfl) (.inl rfl) (.cons rfl (.inl rfl) (.inl rfl) (.nil))))) rfl rfl rfl) (zag (za4 (zgh (zan 2 C hr rfl T.f_is_place (zae (zac (i := 1) rfl (.inl rfl) rfl rfl) (zae (zac (i := 3) rfl (.inl rfl) rfl rfl) (zaj) rfl) rfl) rfl rfl rfl) (zgh (zan 2 C hr rfl T.f_is_place (zae (zac (i := 1) rfl (.inl rfl) rfl rfl) (zae (zac (i := 4) rfl (.inl rfl) rfl rfl) (zaj) rfl) rfl) rfl rfl rfl) (zi2 (zan 3 C hr rfl T.f_is_cost (zae (zac (i := 5) rfl (.inl rfl) rfl rfl) (zaj) rfl) rfl rfl rfl))))) (zak)))
theorem zu3 : za3 ["words", "places", "parts", "at", "word", "price"] ["words", "places", "parts"] (zaf zfy) := ⟨rfl, rfl, rfl, nd12, rfl, by decide +kernel, by decide +kernel⟩
include T C in
theorem zxo (hr : zbe n (A.deeper (envOfC "is_put" (zaf zfy) s.heap.objs.size ad cdv))) :
    DSs fa (zbu CX0 P w K mg base ["words", "places", "parts", "at", "word", "price"] "is_put" (zaf zfy) ad cdv A outer s H E).nox (zaz zfy) (zke c) := by
  have hu : (A.deeper (envOfC "is_put" (zaf zfy) s.heap.objs.size ad cdv)).units + 100 < cLine := by have := hr.un; omega
  exact zag (zbo (zbx hu .ne (zco rfl T.b_len (zae (zac (i := 2) rfl (.inl rfl) rfl rfl) (zaj) rfl) rfl rfl) (zal) rfl) (zag (za4 (zew)) (zak)) (zak)) (zag (za1 (zac (i := 2) rfl (.inl rfl) rfl rfl) (zck (l := [3, 4, 5]) rfl nd12 (.cons rfl (.inl rfl) (.inl rfl) (.cons rfl (.inl rfl) (.inl rfl) (.cons rfl (.inl rfl) (.inl rfl) (.nil))))) rfl rfl rfl) (zag (za4 (zgh (zan 2 C hr rfl T.f_is_place (zae (zac (i := 1) rfl (.inl rfl) rfl rfl) (zae (zac (i := 3) rfl (.inl rfl) rfl rfl) (zaj) rfl) rfl) rfl rfl rfl) (zgh (zan 1 C hr rfl T.f_is_word (zae (zac (i := 0) rfl (.inl rfl) rfl rfl) (zae (zac (i := 4) rfl (.inl rfl) rfl rfl) (zaj) rfl) rfl) rfl rfl rfl) (zi2 (zan 3 C hr rfl T.f_is_cost (zae (zac (i := 5) rfl (.inl rfl) rfl rfl) (zaj) rfl) rfl rfl rfl))))) (zak)))
theorem zs6 : za3 ["words", "places", "thing", "sort", "is_sort"] ["words", "places", "thing"] (zaf zfg) := ⟨rfl, rfl, rfl, nd13, rfl, by decide +kernel, by decide +kernel⟩
include T C in
theorem zvp (hr : zbe n (A.deeper (envOfC "is_deed" (zaf zfg) s.heap.objs.size ad cdv))) :
    DSs fa (zbu CX0 P w K mg base ["words", "places", "thing", "sort", "is_sort"] "is_deed" (zaf zfg) ad cdv A outer s H E).nox (zaz zfg) (zf4 c) := by
  have hu : (A.deeper (envOfC "is_deed" (zaf zfg) s.heap.objs.size ad cdv)).units + 100 < cLine := by have := hr.un; omega
  exact zag (zbo (q_w (zkq (zem (zd4 (zir .tuple (fun _ h => nomatch h) (zac (i := 2) rfl (.inl rfl) rfl rfl) rfl T.b_isinstance rfl T.b_tuple boot_tuple (by decide) rfl rfl) (fun _ => rfl))) (zi3 (zem (zd4 (zac (i := 2) rfl (.inl rfl) rfl rfl) (fun _ => rfl)))))) (zag (za4 (zew)) (zak)) (zak)) (zag (za1 (za5 (zac (i := 2) rfl (.inl rfl) rfl rfl) (zal) (fun _ _ => rfl)) (zao (i := 3) nd13 rfl (.inl rfl) (.inl rfl)) rfl rfl rfl) (zag (zbo (q_w (zkq (zem (zd4 (zir .str (fun _ h => nomatch h) (zac (i := 3) rfl (.inl rfl) rfl rfl) rfl T.b_isinstance rfl T.b_str boot_str (by decide) rfl rfl) (fun _ => rfl))) (zi3 (zzv T.d_SORTS rfl rfl (zac (i := 3) rfl (.inl rfl) rfl rfl) rfl)))) (zag (za4 (zew)) (zak)) (zak)) (zag (za1 (zsd T.d_SORTS rfl rfl (zac (i := 3) rfl (.inl rfl) rfl rfl) (fun _ _ => rfl)) (zao (i := 4) nd13 rfl (.inl rfl) (.inl rfl)) rfl rfl rfl) (zag (za4 (zse (i := 4) C hr rfl (.inl rfl) (zae (zac (i := 0) rfl (.inl rfl) rfl rfl) (zae (zac (i := 1) rfl (.inl rfl) rfl rfl) (zae (zfi false true false (zac (i := 2) rfl (.inl rfl) rfl rfl) (zdi (zal)) (zfo)) (zaj) rfl) rfl) rfl) rfl rfl rfl rfl)) (zak)))))
theorem zo4 : za3 ["thing", "words", "places", "deeds"] ["thing"] (zaf zde) := ⟨rfl, rfl, rfl, nd14, rfl, by decide +kernel, by decide +kernel⟩
include T C in
theorem zqh (hr : zbe n (A.deeper (envOfC "is_machine" (zaf zde) s.heap.objs.size ad cdv))) :
    DSs fa (zbu CX0 P w K mg base ["thing", "words", "places", "deeds"] "is_machine" (zaf zde) ad cdv A outer s H E).nox (zaz zde) (zg7 c) := by
  have hu : (A.deeper (envOfC "is_machine" (zaf zde) s.heap.objs.size ad cdv)).units + 100 < cLine := by have := hr.un; omega
  exact zag (zbo (zem (zd4 (zan 4 C hr rfl T.f_is_tuple_of (zae (zal) (zae (zac (i := 0) rfl (.inl rfl) rfl rfl) (zaj) rfl) rfl) rfl rfl rfl) (fun _ => rfl))) (zag (za4 (zew)) (zak)) (zak)) (zag (za1 (zac (i := 0) rfl (.inl rfl) rfl rfl) (zck (l := [1, 2, 3]) rfl nd14 (.cons rfl (.inr rfl) (.inl rfl) (.cons rfl (.inr rfl) (.inl rfl) (.cons rfl (.inl rfl) (.inl rfl) (.nil))))) rfl rfl rfl) (zag (zbo (q_w (zkq (zem (zd4 (zan 0 C hr rfl T.f_is_between (zae (zac (i := 1) rfl (.inr (.inl rfl)) rfl rfl) (zae (zhi (i := 2) rfl T.c_LEAST_WORDS rfl) (zae (zhi (i := 4) rfl T.c_MOST_WORDS rfl) (zaj) rfl) rfl) rfl) rfl rfl rfl) (fun _ => rfl))) (zi3 (zem (zd4 (zan 0 C hr rfl T.f_is_between (zae (zac (i := 2) rfl (.inr (.inl rfl)) rfl rfl) (zae (zal) (zae (zhi (i := 2) rfl T.c_MOST_PLACES rfl) (zaj) rfl) rfl) rfl) rfl rfl rfl) (fun _ => rfl)))))) (zag (za4 (zew)) (zak)) (zak)) (zag (zbo (q_w (zkq (zem (zd4 (zir .tuple (fun _ h => nomatch h) (zac (i := 3) rfl (.inl rfl) rfl rfl) rfl T.b_isinstance rfl T.b_tuple boot_tuple (by decide) rfl rfl) (fun _ => rfl))) (zi3 (zem (q_chn hu .le .le (zal) (zco rfl T.b_len (zae (zac (i := 3) rfl (.inl rfl) rfl rfl) (zaj) rfl) rfl rfl) (zhi (i := 6) rfl T.c_MOST_DEEDS rfl) rfl))))) (zag (za4 (zew)) (zak)) (zak)) (zag (za4 (zta rfl rfl T.b_all (zae (zea false (zca (own := ["deed"]) (bn := ["thing", "words", "places", "deeds"]) (sc := zaf zde) (N := ["thing", "words", "places", "deeds"]) rfl rfl rfl (by decide +kernel)) rfl (zf3 (zac (i := 3) rfl (.inl rfl) rfl rfl)) (fun cl C0 fp s0 H0 => zao (i := 0) nd15 rfl (.inl rfl) (.inr rfl)) (fun cl C0 fp s0 H0 => zan 11 C hr rfl T.f_is_deed (zae (zac (i := 2) rfl (.inr (.inl rfl)) rfl rfl) (zae (zac (i := 3) rfl (.inr (.inl rfl)) rfl rfl) (zae (zac (i := 0) rfl (.inl rfl) rfl rfl) (zaj) rfl) rfl) rfl) rfl rfl rfl) rfl (fun _ => rfl)) (zaj) rfl) rfl rfl)) (zak)))))
theorem zmi : za3 ["thing"] ["thing"] (zaf zc7) := ⟨rfl, rfl, rfl, nd16, rfl, by decide +kernel, by decide +kernel⟩
include T C in
theorem zns (hr : zbe n (A.deeper (envOfC "need_machine" (zaf zc7) s.heap.objs.size ad cdv))) :
    DSs fa (zbu CX0 P w K mg base ["thing"] "need_machine" (zaf zc7) ad cdv A outer s H E).nox (zaz zc7) (zgd c) := by
  have hu : (A.deeper (envOfC "need_machine" (zaf zc7) s.heap.objs.size ad cdv)).units + 100 < cLine := by have := hr.un; omega
  exact zag (zbo (zem (zd4 (zan 12 C hr rfl T.f_is_machine (zae (zac (i := 0) rfl (.inl rfl) rfl rfl) (zaj) rfl) rfl rfl rfl) (fun _ => rfl))) (zag (zk3) (zak)) (zak)) (zak)
theorem zo6 : za3 ["machine", "words", "places", "deeds", "starts", "place"] ["machine"] (zaf zdf) := ⟨rfl, rfl, rfl, nd17, rfl, by decide +kernel, by decide +kernel⟩
include T C in
theorem zqj (hr : zbe n (A.deeper (envOfC "beginnings" (zaf zdf) s.heap.objs.size ad cdv))) :
    DSs fa (zbu CX0 P w K mg base ["machine", "words", "places", "deeds", "starts", "place"] "beginnings" (zaf zdf) ad cdv A outer s H E).nox (zaz zdf) (zdc c) := by
  have hu : (A.deeper (envOfC "beginnings" (zaf zdf) s.heap.objs.size ad cdv)).units + 100 < cLine := by have := hr.un; omega
  exact zag (zko (zan 13 C hr rfl T.f_need_machine (zae (zac (i := 0) rfl (.inl rfl) rfl rfl) (zaj) rfl) rfl rfl rfl) rfl) (zag (za1 (zac (i := 0) rfl (.inl rfl) rfl rfl) (zck (l := [1, 2, 3]) rfl nd17 (.cons rfl (.inr rfl) (.inl rfl) (.cons rfl (.inl rfl) (.inl rfl) (.cons rfl (.inl rfl) (.inl rfl) (.nil))))) rfl rfl rfl) (zag (za1 (zel false (zae (zd3 (zaj)) (zaj) rfl)) (zao (i := 4) nd17 rfl (.inl rfl) (.inl rfl)) rfl rfl rfl) (zag (zfs PassesOwn.never rfl (zdn (zac (i := 2) rfl (.inl rfl) rfl rfl) rfl T.b_range rfl) (zao (i := 5) nd17 rfl (.inl rfl) (.inl rfl)) (zag (zzq false (zca (own := ["start", "word"]) (bn := ["machine", "words", "places", "deeds", "starts", "place"]) (sc := zaf zdf) (N := ["machine", "words", "places", "deeds", "starts", "place"]) rfl rfl rfl (by decide +kernel)) rfl (zf3 (zac (i := 4) rfl (.inl rfl) rfl rfl)) (fun cl C0 fp s0 H0 => zao (i := 0) nd18 rfl (.inl rfl) (.inr rfl)) (fun cl C0 fp s0 H0 => zdn (zac (i := 3) rfl (.inr (.inl rfl)) rfl rfl) rfl T.b_range rfl) (fun cl C0 fp s0 H0 => zao (i := 1) nd18 rfl (.inl rfl) (.inr rfl)) (fun cl C0 fp s0 H0 => zaw false .add (zac (i := 0) rfl (.inl rfl) rfl rfl) (zd3 (zae (zac (i := 1) rfl (.inl rfl) rfl rfl) (zaj) rfl))) rfl rfl (fun _ => rfl) (fun cl C0 fp s0 H0 => fun _ => rfl) nd17 rfl rfl rfl) (zak)) (fun _ => rfl)) (zag (za4 (zac (i := 4) rfl (.inl rfl) rfl rfl)) (zak)))))
theorem zlg : za3 ["machine", "thing"] ["machine", "thing"] (zaf zcl) := ⟨rfl, rfl, rfl, nd19, rfl, by decide +kernel, by decide +kernel⟩
include T C in
theorem zly (hr : zbe n (A.deeper (envOfC "is_deed_number" (zaf zcl) s.heap.objs.size ad cdv))) :
    DSs fa (zbu CX0 P w K mg base ["machine", "thing"] "is_deed_number" (zaf zcl) ad cdv A outer s H E).nox (zaz zcl) (zfm c) := by
  have hu : (A.deeper (envOfC "is_deed_number" (zaf zcl) s.heap.objs.size ad cdv)).units + 100 < cLine := by have := hr.un; omega
  exact zag (za4 (zan 0 C hr rfl T.f_is_between (zae (zac (i := 1) rfl (.inl rfl) rfl rfl) (zae (zal) (zae (zaw false .sub (zco rfl T.b_len (zae (za5 (zac (i := 0) rfl (.inl rfl) rfl rfl) (zal) (fun _ _ => rfl)) (zaj) rfl) rfl rfl) (zal)) (zaj) rfl) rfl) rfl) rfl rfl rfl)) (zak)
theorem zmh : za3 ["machine", "row", "place", "thing"] ["machine", "row"] (zaf zc6) := ⟨rfl, rfl, rfl, nd20, rfl, by decide +kernel, by decide +kernel⟩
include T C in
theorem znr (hr : zbe n (A.deeper (envOfC "need_numbers" (zaf zc6) s.heap.objs.size ad cdv))) :
    DSs fa (zbu CX0 P w K mg base ["machine", "row", "place", "thing"] "need_numbers" (zaf zc6) ad cdv A outer s H E).nox (zaz zc6) (zgc c) := by
  have hu : (A.deeper (envOfC "need_numbers" (zaf zc6) s.heap.objs.size ad cdv)).units + 100 < cLine := by have := hr.un; omega
  exact zag (zbo (zem (zd4 (zir .list (fun _ h => nomatch h) (zac (i := 1) rfl (.inl rfl) rfl rfl) rfl T.b_isinstance rfl T.b_list boot_list (by decide) rfl rfl) (fun _ => rfl))) (zag (zk3) (zak)) (zak)) (zag (zfs PassesOwn.never rfl (zjp (zac (i := 1) rfl (.inl rfl) rfl rfl) rfl T.b_enumerate rfl) (zck (l := [2, 3]) rfl nd20 (.cons rfl (.inl rfl) (.inl rfl) (.cons rfl (.inl rfl) (.inl rfl) (.nil)))) (zag (zbo (zem (zd4 (zan 16 C hr rfl T.f_is_deed_number (zae (zac (i := 0) rfl (.inl rfl) rfl rfl) (zae (zac (i := 3) rfl (.inl rfl) rfl rfl) (zaj) rfl) rfl) rfl rfl rfl) (fun _ => rfl))) (zag (zk3) (zak)) (zak)) (zak)) (fun _ => rfl)) (zak))
theorem zru : za3 ["machine", "row"] ["machine", "row"] (zaf zeu) := ⟨rfl, rfl, rfl, nd21, rfl, by decide +kernel, by decide +kernel⟩
include T C in
theorem ztc (hr : zbe n (A.deeper (envOfC "need_row" (zaf zeu) s.heap.objs.size ad cdv))) :
    DSs fa (zbu CX0 P w K mg base ["machine", "row"] "need_row" (zaf zeu) ad cdv A outer s H E).nox (zaz zeu) (zic c) := by
  have hu : (A.deeper (envOfC "need_row" (zaf zeu) s.heap.objs.size ad cdv)).units + 100 < cLine := by have := hr.un; omega
  exact zag (zko (zan 13 C hr rfl T.f_need_machine (zae (zac (i := 0) rfl (.inl rfl) rfl rfl) (zaj) rfl) rfl rfl rfl) rfl) (zag (zko (zan 17 C hr rfl T.f_need_numbers (zae (zac (i := 0) rfl (.inl rfl) rfl rfl) (zae (zac (i := 1) rfl (.inl rfl) rfl rfl) (zaj) rfl) rfl) rfl rfl rfl) rfl) (zag (zbo (zbx hu .gt (zco rfl T.b_len (zae (zac (i := 1) rfl (.inl rfl) rfl rfl) (zaj) rfl) rfl rfl) (zhi (i := 40) rfl T.c_LONGEST_ROW rfl) rfl) (zag (zk3) (zak)) (zak)) (zak)))
theorem zux : za3 ["deed", "standing", "sort", "at", "table", "price"] ["deed", "standing"] (zaf zft) := ⟨rfl, rfl, rfl, nd22, rfl, by decide +kernel, by decide +kernel⟩
include T C in
theorem zxj (hr : zbe n (A.deeper (envOfC "turned" (zaf zft) s.heap.objs.size ad cdv))) :
    DSs fa (zbu CX0 P w K mg base ["deed", "standing", "sort", "at", "table", "price"] "turned" (zaf zft) ad cdv A outer s H E).nox (zaz zft) (zj9 c) := by
  have hu : (A.deeper (envOfC "turned" (zaf zft) s.heap.objs.size ad cdv)).units + 100 < cLine := by have := hr.un; omega
  exact zag (za1 (zac (i := 0) rfl (.inl rfl) rfl rfl) (zck (l := [2, 3, 4, 5]) rfl nd22 (.cons rfl (.inl rfl) (.inl rfl) (.cons rfl (.inl rfl) (.inl rfl) (.cons rfl (.inl rfl) (.inl rfl) (.cons rfl (.inl rfl) (.inl rfl) (.nil)))))) rfl rfl rfl) (zag (za4 (za5 (zac (i := 4) rfl (.inl rfl) rfl rfl) (za5 (zac (i := 1) rfl (.inl rfl) rfl rfl) (zac (i := 3) rfl (.inl rfl) rfl rfl) (fun _ _ => rfl)) (fun _ _ => rfl))) (zak))
theorem zu1 : za3 ["deed", "standing", "sort", "at", "other", "table", "price"] ["deed", "standing"] (zaf zfw) := ⟨rfl, rfl, rfl, nd23, rfl, by decide +kernel, by decide +kernel⟩
include T C in
theorem zxm (hr : zbe n (A.deeper (envOfC "joined" (zaf zfw) s.heap.objs.size ad cdv))) :
    DSs fa (zbu CX0 P w K mg base ["deed", "standing", "sort", "at", "other", "table", "price"] "joined" (zaf zfw) ad cdv A outer s H E).nox (zaz zfw) (zkc c) := by
  have hu : (A.deeper (envOfC "joined" (zaf zfw) s.heap.objs.size ad cdv)).units + 100 < cLine := by have := hr.un; omega
  exact zag (za1 (zac (i := 0) rfl (.inl rfl) rfl rfl) (zck (l := [2, 3, 4, 5, 6]) rfl nd23 (.cons rfl (.inl rfl) (.inl rfl) (.cons rfl (.inl rfl) (.inl rfl) (.cons rfl (.inl rfl) (.inl rfl) (.cons rfl (.inl rfl) (.inl rfl) (.cons rfl (.inl rfl) (.inl rfl) (.nil))))))) rfl rfl rfl) (zag (za4 (za5 (za5 (zac (i := 5) rfl (.inl rfl) rfl rfl) (za5 (zac (i := 1) rfl (.inl rfl) rfl rfl) (zac (i := 3) rfl (.inl rfl) rfl rfl) (fun _ _ => rfl)) (fun _ _ => rfl)) (za5 (zac (i := 1) rfl (.inl rfl) rfl rfl) (zac (i := 4) rfl (.inl rfl) rfl rfl) (fun _ _ => rfl)) (fun _ _ => rfl))) (zak))
theorem zw5 : za3 ["deed", "standing", "sort", "at", "other", "price"] ["deed", "standing"] (zaf zgq) := ⟨rfl, rfl, rfl, nd24, rfl, by decide +kernel, by decide +kernel⟩
include T C in
theorem zz8 (hr : zbe n (A.deeper (envOfC "moved" (zaf zgq) s.heap.objs.size ad cdv))) :
    DSs fa (zbu CX0 P w K mg base ["deed", "standing", "sort", "at", "other", "price"] "moved" (zaf zgq) ad cdv A outer s H E).nox (zaz zgq) (zld c) := by
  have hu : (A.deeper (envOfC "moved" (zaf zgq) s.heap.objs.size ad cdv)).units + 100 < cLine := by have := hr.un; omega
  exact zag (za1 (zac (i := 0) rfl (.inl rfl) rfl rfl) (zck (l := [2, 3, 4, 5]) rfl nd24 (.cons rfl (.inl rfl) (.inl rfl) (.cons rfl (.inl rfl) (.inl rfl) (.cons rfl (.inl rfl) (.inl rfl) (.cons rfl (.inl rfl) (.inl rfl) (.nil)))))) rfl rfl rfl) (zag (za4 (za5 (zac (i := 1) rfl (.inl rfl) rfl rfl) (zac (i := 4) rfl (.inl rfl) rfl rfl) (fun _ _ => rfl))) (zak))
theorem zuy : za3 ["deed", "standing", "sort", "at", "word", "price"] ["deed", "standing"] (zaf zfu) := ⟨rfl, rfl, rfl, nd25, rfl, by decide +kernel, by decide +kernel⟩
include T C in
theorem zxk (hr : zbe n (A.deeper (envOfC "put_in" (zaf zfu) s.heap.objs.size ad cdv))) :
    DSs fa (zbu CX0 P w K mg base ["deed", "standing", "sort", "at", "word", "price"] "put_in" (zaf zfu) ad cdv A outer s H E).nox (zaz zfu) (zka c) := by
  have hu : (A.deeper (envOfC "put_in" (zaf zfu) s.heap.objs.size ad cdv)).units + 100 < cLine := by have := hr.un; omega
  exact zag (za1 (zac (i := 0) rfl (.inl rfl) rfl rfl) (zck (l := [2, 3, 4, 5]) rfl nd25 (.cons rfl (.inl rfl) (.inl rfl) (.cons rfl (.inl rfl) (.inl rfl) (.cons rfl (.inl rfl) (.inl rfl) (.cons rfl (.inl rfl) (.inl rfl) (.nil)))))) rfl rfl rfl) (zag (za4 (zac (i := 4) rfl (.inl rfl) rfl rfl)) (zak))
theorem zzp : za3 ["deed", "standing", "new_word", "at"] ["deed", "standing"] (zaf zhg) := ⟨rfl, rfl, rfl, nd26, rfl, by decide +kernel, by decide +kernel⟩
include T C in
theorem p_done (hr : zbe n (A.deeper (envOfC "done" (zaf zhg) s.heap.objs.size ad cdv))) :
    DSs fa (zbu CX0 P w K mg base ["deed", "standing", "new_word", "at"] "done" (zaf zhg) ad cdv A outer s H E).nox (zaz zhg) (zm7 c) := by
  have hu : (A.deeper (envOfC "done" (zaf zhg) s.heap.objs.size ad cdv)).units + 100 < cLine := by have := hr.un; omega
  exact zag (za1 (zsd T.d_NEW_WORDS rfl rfl (za5 (zac (i := 0) rfl (.inl rfl) rfl rfl) (zal) (fun _ _ => rfl)) (fun _ _ => rfl)) (zao (i := 2) nd26 rfl (.inl rfl) (.inl rfl)) rfl rfl rfl) (zag (za1 (za5 (zac (i := 0) rfl (.inl rfl) rfl rfl) (zal) (fun _ _ => rfl)) (zao (i := 3) nd26 rfl (.inl rfl) (.inl rfl)) rfl rfl rfl) (zag (za4 (zaw false .add (zaw false .add (zfi false false true (zac (i := 1) rfl (.inl rfl) rfl rfl) (zfo) (zdi (zac (i := 3) rfl (.inl rfl) rfl rfl))) (zd3 (zae (zse (i := 2) C hr rfl (.inl rfl) (zae (zac (i := 0) rfl (.inl rfl) rfl rfl) (zae (zac (i := 1) rfl (.inl rfl) rfl rfl) (zaj) rfl) rfl) rfl rfl rfl rfl) (zaj) rfl))) (zfi false true false (zac (i := 1) rfl (.inl rfl) rfl rfl) (zdi (zaw false .add (zac (i := 3) rfl (.inl rfl) rfl rfl) (zal))) (zfo)))) (zak)))
theorem zmj : za3 ["machine", "row", "beginning", "standings", "number"] ["machine", "row", "beginning"] (zaf zc8) := ⟨rfl, rfl, rfl, nd27, rfl, by decide +kernel, by decide +kernel⟩
include T C in
theorem znt (hr : zbe n (A.deeper (envOfC "all_standing" (zaf zc8) s.heap.objs.size ad cdv))) :
    DSs fa (zbu CX0 P w K mg base ["machine", "row", "beginning", "standings", "number"] "all_standing" (zaf zc8) ad cdv A outer s H E).nox (zaz zc8) (zge c) := by
  have hu : (A.deeper (envOfC "all_standing" (zaf zc8) s.heap.objs.size ad cdv)).units + 100 < cLine := by have := hr.un; omega
  exact zag (za1 (zel true (zae (zac (i := 2) rfl (.inl rfl) rfl rfl) (zaj) rfl)) (zao (i := 3) nd27 rfl (.inl rfl) (.inl rfl)) rfl rfl rfl) (zag (zfs PassesOwn.never rfl (zf3 (zac (i := 1) rfl (.inl rfl) rfl rfl)) (zao (i := 4) nd27 rfl (.inl rfl) (.inl rfl)) (zag (zmn (zac (i := 3) rfl (.inl rfl) rfl rfl) (zan 24 C hr rfl T.f_done (zae (za5 (za5 (zac (i := 0) rfl (.inl rfl) rfl rfl) (zal) (fun _ _ => rfl)) (zac (i := 4) rfl (.inl rfl) rfl rfl) (fun _ _ => rfl)) (zae (za5 (zac (i := 3) rfl (.inl rfl) rfl rfl) (zmo (zal)) (fun _ _ => rfl)) (zaj) rfl) rfl) rfl rfl rfl) rfl rfl rfl rfl) (zak)) (fun _ => rfl)) (zag (za4 (zac (i := 3) rfl (.inl rfl) rfl rfl)) (zak)))
theorem zs8 : za3 ["machine", "row"] ["machine", "row"] (zaf zes) := ⟨rfl, rfl, rfl, nd28, rfl, by decide +kernel, by decide +kernel⟩
include T C in
theorem zvr (hr : zbe n (A.deeper (envOfC "ends_of" (zaf zes) s.heap.objs.size ad cdv))) :
    DSs fa (zbu CX0 P w K mg base ["machine", "row"] "ends_of" (zaf zes) ad cdv A outer s H E).nox (zaz zes) (ze9 c) := by
  have hu : (A.deeper (envOfC "ends_of" (zaf zes) s.heap.objs.size ad cdv)).units + 100 < cLine := by have := hr.un; omega
  exact zag (za4 (zga rfl T.b_tuple (zae (zea false (zca (own := ["start"]) (bn := ["machine", "row"]) (sc := zaf zes) (N := ["machine", "row"]) rfl rfl rfl (by decide +kernel)) rfl (zf3 (zan 15 C hr rfl T.f_beginnings (zae (zac (i := 0) rfl (.inr (.inl rfl)) rfl rfl) (zaj) rfl) rfl rfl rfl)) (fun cl C0 fp s0 H0 => zao (i := 0) nd29 rfl (.inl rfl) (.inr rfl)) (fun cl C0 fp s0 H0 => za5 (zan 25 C hr rfl T.f_all_standing (zae (zac (i := 1) rfl (.inr (.inl rfl)) rfl rfl) (zae (zac (i := 2) rfl (.inr (.inl rfl)) rfl rfl) (zae (zac (i := 0) rfl (.inl rfl) rfl rfl) (zaj) rfl) rfl) rfl) rfl rfl rfl) (zmo (zal)) (fun _ _ => rfl)) rfl (fun _ => rfl)) (zaj) rfl) rfl rfl)) (zak)
theorem zp1 : za3 ["machine", "row"] ["machine", "row"] (zaf zed) := ⟨rfl, rfl, rfl, nd30, rfl, by decide +kernel, by decide +kernel⟩
include T C in
theorem zrz (hr : zbe n (A.deeper (envOfC "behaviour" (zaf zed) s.heap.objs.size ad cdv))) :
    DSs fa (zbu CX0 P w K mg base ["machine", "row"] "behaviour" (zaf zed) ad cdv A outer s H E).nox (zaz zed) (zez c) := by
  have hu : (A.deeper (envOfC "behaviour" (zaf zed) s.heap.objs.size ad cdv)).units + 100 < cLine := by have := hr.un; omega
  exact zag (zko (zan 18 C hr rfl T.f_need_row (zae (zac (i := 0) rfl (.inl rfl) rfl rfl) (zae (zac (i := 1) rfl (.inl rfl) rfl rfl) (zaj) rfl) rfl) rfl rfl rfl) rfl) (zag (za4 (zan 46 C hr rfl T.f_ends_of (zae (zac (i := 0) rfl (.inl rfl) rfl rfl) (zae (zac (i := 1) rfl (.inl rfl) rfl rfl) (zaj) rfl) rfl) rfl rfl rfl)) (zak))
theorem zuz : za3 ["machine", "one", "other", "one_ends", "other_ends", "start", "one_end", "other_end"] ["machine", "one", "other"] (zaf zfv) := ⟨rfl, rfl, rfl, nd31, rfl, by decide +kernel, by decide +kernel⟩
include T C in
theorem zxl (hr : zbe n (A.deeper (envOfC "parted" (zaf zfv) s.heap.objs.size ad cdv))) :
    DSs fa (zbu CX0 P w K mg base ["machine", "one", "other", "one_ends", "other_ends", "start", "one_end", "other_end"] "parted" (zaf zfv) ad cdv A outer s H E).nox (zaz zfv) (zkb c) := by
  have hu : (A.deeper (envOfC "parted" (zaf zfv) s.heap.objs.size ad cdv)).units + 100 < cLine := by have := hr.un; omega
  exact zag (za1 (zan 27 C hr rfl T.f_behaviour (zae (zac (i := 0) rfl (.inl rfl) rfl rfl) (zae (zac (i := 1) rfl (.inl rfl) rfl rfl) (zaj) rfl) rfl) rfl rfl rfl) (zao (i := 3) nd31 rfl (.inl rfl) (.inl rfl)) rfl rfl rfl) (zag (za1 (zan 27 C hr rfl T.f_behaviour (zae (zac (i := 0) rfl (.inl rfl) rfl rfl) (zae (zac (i := 2) rfl (.inl rfl) rfl rfl) (zaj) rfl) rfl) rfl rfl rfl) (zao (i := 4) nd31 rfl (.inl rfl) (.inl rfl)) rfl rfl rfl) (zag (zfs PassesOwn.never rfl (z0o (zan 15 C hr rfl T.f_beginnings (zae (zac (i := 0) rfl (.inl rfl) rfl rfl) (zaj) rfl) rfl rfl rfl) (zac (i := 3) rfl (.inl rfl) rfl rfl) (zac (i := 4) rfl (.inl rfl) rfl rfl) rfl T.b_zip rfl rfl rfl) (zck (l := [5, 6, 7]) rfl nd31 (.cons rfl (.inl rfl) (.inl rfl) (.cons rfl (.inl rfl) (.inl rfl) (.cons rfl (.inl rfl) (.inl rfl) (.nil))))) (zag (zbo (zbx hu .ne (zac (i := 6) rfl (.inl rfl) rfl rfl) (zac (i := 7) rfl (.inl rfl) rfl rfl) rfl) (zag (za4 (zac (i := 5) rfl (.inl rfl) rfl rfl)) (zak)) (zak)) (zak)) (fun _ => rfl)) (zag (za4 (zhm)) (zak))))
theorem zu2 : za3 ["machine", "thing"] ["machine", "thing"] (zaf zfx) := ⟨rfl, rfl, rfl, nd32, rfl, by decide +kernel, by decide +kernel⟩
include T C in
theorem zxn (hr : zbe n (A.deeper (envOfC "is_row" (zaf zfx) s.heap.objs.size ad cdv))) :
    DSs fa (zbu CX0 P w K mg base ["machine", "thing"] "is_row" (zaf zfx) ad cdv A outer s H E).nox (zaz zfx) (zkd c) := by
  have hu : (A.deeper (envOfC "is_row" (zaf zfx) s.heap.objs.size ad cdv)).units + 100 < cLine := by have := hr.un; omega
  exact zag (s_tryN (fun _ _ h => h) (zag (zko (zan 18 C hr rfl T.f_need_row (zae (zac (i := 0) rfl (.inl rfl) rfl rfl) (zae (zac (i := 1) rfl (.inl rfl) rfl rfl) (zaj) rfl) rfl) rfl rfl rfl) rfl) (zak))) (zag (za4 (zew)) (zak))
theorem zs3 : za3 ["machine", "thing", "one", "other"] ["machine", "thing"] (zaf zfd) := ⟨rfl, rfl, rfl, nd33, rfl, by decide +kernel, by decide +kernel⟩
include T C in
theorem zvm (hr : zbe n (A.deeper (envOfC "is_rule" (zaf zfd) s.heap.objs.size ad cdv))) :
    DSs fa (zbu CX0 P w K mg base ["machine", "thing", "one", "other"] "is_rule" (zaf zfd) ad cdv A outer s H E).nox (zaz zfd) (zjc c) := by
  have hu : (A.deeper (envOfC "is_rule" (zaf zfd) s.heap.objs.size ad cdv)).units + 100 < cLine := by have := hr.un; omega
  exact zag (zbo (zem (zd4 (zan 4 C hr rfl T.f_is_tuple_of (zae (zal) (zae (zac (i := 1) rfl (.inl rfl) rfl rfl) (zaj) rfl) rfl) rfl rfl rfl) (fun _ => rfl))) (zag (za4 (zew)) (zak)) (zak)) (zag (za1 (zac (i := 1) rfl (.inl rfl) rfl rfl) (zck (l := [2, 3]) rfl nd33 (.cons rfl (.inl rfl) (.inl rfl) (.cons rfl (.inl rfl) (.inl rfl) (.nil)))) rfl rfl rfl) (zag (za4 (zgh (zan 52 C hr rfl T.f_is_row (zae (zac (i := 0) rfl (.inl rfl) rfl rfl) (zae (zac (i := 2) rfl (.inl rfl) rfl rfl) (zaj) rfl) rfl) rfl rfl rfl) (zgh (zan 52 C hr rfl T.f_is_row (zae (zac (i := 0) rfl (.inl rfl) rfl rfl) (zae (zac (i := 3) rfl (.inl rfl) rfl rfl) (zaj) rfl) rfl) rfl rfl rfl) (zi2 (zs9 hu .isN (zan 48 C hr rfl T.f_parted (zae (zac (i := 0) rfl (.inl rfl) rfl rfl) (zae (zac (i := 2) rfl (.inl rfl) rfl rfl) (zae (zac (i := 3) rfl (.inl rfl) rfl rfl) (zaj) rfl) rfl) rfl) rfl rfl rfl) (zhm) rfl))))) (zak)))
theorem zo3 : za3 ["machine", "rules", "number", "rule"] ["machine", "rules"] (zaf zdx) := ⟨rfl, rfl, rfl, nd34, rfl, by decide +kernel, by decide +kernel⟩
include T C in
theorem zqg (hr : zbe n (A.deeper (envOfC "need_rules" (zaf zdx) s.heap.objs.size ad cdv))) :
    DSs fa (zbu CX0 P w K mg base ["machine", "rules", "number", "rule"] "need_rules" (zaf zdx) ad cdv A outer s H E).nox (zaz zdx) (zg6 c) := by
  have hu : (A.deeper (envOfC "need_rules" (zaf zdx) s.heap.objs.size ad cdv)).units + 100 < cLine := by have := hr.un; omega
  exact zag (zko (zan 13 C hr rfl T.f_need_machine (zae (zac (i := 0) rfl (.inl rfl) rfl rfl) (zaj) rfl) rfl rfl rfl) rfl) (zag (zfs PassesOwn.never rfl (zjp (zac (i := 1) rfl (.inl rfl) rfl rfl) rfl T.b_enumerate rfl) (zck (l := [2, 3]) rfl nd34 (.cons rfl (.inl rfl) (.inl rfl) (.cons rfl (.inl rfl) (.inl rfl) (.nil)))) (zag (zbo (zem (zd4 (zan 53 C hr rfl T.f_is_rule (zae (zac (i := 0) rfl (.inl rfl) rfl rfl) (zae (zac (i := 3) rfl (.inl rfl) rfl rfl) (zaj) rfl) rfl) rfl rfl rfl) (fun _ => rfl))) (zag (zk3) (zak)) (zak)) (zak)) (fun _ => rfl)) (zak))
theorem znj : za3 ["rules", "row", "step", "place", "number", "back", "given", "taken", "beyond", "made"] ["rules", "row", "step"] (zaf zdk) := ⟨rfl, rfl, rfl, nd35, rfl, by decide +kernel, by decide +kernel⟩
include T C in
theorem zo9 (hr : zbe n (A.deeper (envOfC "behind_step" (zaf zdk) s.heap.objs.size ad cdv))) :
    DSs fa (zbu CX0 P w K mg base ["rules", "row", "step", "place", "number", "back", "given", "taken", "beyond", "made"] "behind_step" (zaf zdk) ad cdv A outer s H E).nox (zaz zdk) (zgk c) := by
  have hu : (A.deeper (envOfC "behind_step" (zaf zdk) s.heap.objs.size ad cdv)).units + 100 < cLine := by have := hr.un; omega
  exact zag (za1 (zac (i := 2) rfl (.inl rfl) rfl rfl) (zck (l := [3, 4, 5]) rfl nd35 (.cons rfl (.inl rfl) (.inl rfl) (.cons rfl (.inl rfl) (.inl rfl) (.cons rfl (.inl rfl) (.inl rfl) (.nil))))) rfl rfl rfl) (zag (zbo (q_w (zkq (zem (zd4 (zan 0 C hr rfl T.f_is_between (zae (zac (i := 3) rfl (.inl rfl) rfl rfl) (zae (zal) (zae (zco rfl T.b_len (zae (zac (i := 1) rfl (.inl rfl) rfl rfl) (zaj) rfl) rfl rfl) (zaj) rfl) rfl) rfl) rfl rfl rfl) (fun _ => rfl))) (zi3 (zem (zd4 (zan 0 C hr rfl T.f_is_between (zae (zac (i := 4) rfl (.inl rfl) rfl rfl) (zae (zal) (zae (zaw false .sub (zco rfl T.b_len (zae (zac (i := 0) rfl (.inl rfl) rfl rfl) (zaj) rfl) rfl rfl) (zal)) (zaj) rfl) rfl) rfl) rfl rfl rfl) (fun _ => rfl)))))) (zag (za4 (zhm)) (zak)) (zak)) (zag (za1 (za5 (zac (i := 0) rfl (.inl rfl) rfl rfl) (zac (i := 4) rfl (.inl rfl) rfl rfl) (fun _ _ => rfl)) (zck (l := [6, 7]) rfl nd35 (.cons rfl (.inl rfl) (.inl rfl) (.cons rfl (.inl rfl) (.inl rfl) (.nil)))) rfl rfl rfl) (zag (zbo (zd4 (zac (i := 5) rfl (.inl rfl) rfl rfl) (fun _ => rfl)) (zag (s_par rfl nd35 rfl rfl (by decide) rfl rfl (zae (zac (i := 7) rfl (.inl rfl) rfl rfl) (zae (zac (i := 6) rfl (.inl rfl) rfl rfl) (zaj) rfl) rfl) rfl rfl) (zak)) (zak)) (zag (za1 (zaw false .add (zac (i := 3) rfl (.inl rfl) rfl rfl) (zco rfl T.b_len (zae (zac (i := 6) rfl (.inl rfl) rfl rfl) (zaj) rfl) rfl rfl)) (zao (i := 8) nd35 rfl (.inl rfl) (.inl rfl)) rfl rfl rfl) (zag (zbo (zbx hu .ne (zfi false true true (zac (i := 1) rfl (.inl rfl) rfl rfl) (zdi (zac (i := 3) rfl (.inl rfl) rfl rfl)) (zdi (zac (i := 8) rfl (.inl rfl) rfl rfl))) (zac (i := 6) rfl (.inl rfl) rfl rfl) rfl) (zag (za4 (zhm)) (zak)) (zak)) (zag (za1 (zaw true .add (zaw false .add (zfi false false true (zac (i := 1) rfl (.inl rfl) rfl rfl) (zfo) (zdi (zac (i := 3) rfl (.inl rfl) rfl rfl))) (zac (i := 7) rfl (.inl rfl) rfl rfl)) (zfi false true false (zac (i := 1) rfl (.inl rfl) rfl rfl) (zdi (zac (i := 8) rfl (.inl rfl) rfl rfl)) (zfo))) (zao (i := 9) nd35 rfl (.inl rfl) (.inl rfl)) rfl rfl rfl) (zag (za4 (zmp (zbx hu .le (zco rfl T.b_len (zae (zac (i := 9) rfl (.inl rfl) rfl rfl) (zaj) rfl) rfl rfl) (zhi (i := 40) rfl T.c_LONGEST_ROW rfl) rfl) (zac (i := 9) rfl (.inl rfl) rfl rfl) (zhm))) (zak))))))))
theorem zs0 : za3 ["machine", "rules", "row", "steps", "standing", "place", "step", "made"] ["machine", "rules", "row", "steps"] (zaf zfa) := ⟨rfl, rfl, rfl, nd36, rfl, by decide +kernel, by decide +kernel⟩
include T C in
theorem zvj (hr : zbe n (A.deeper (envOfC "stepped" (zaf zfa) s.heap.objs.size ad cdv))) :
    DSs fa (zbu CX0 P w K mg base ["machine", "rules", "row", "steps", "standing", "place", "step", "made"] "stepped" (zaf zfa) ad cdv A outer s H E).nox (zaz zfa) (zi9 c) := by
  have hu : (A.deeper (envOfC "stepped" (zaf zfa) s.heap.objs.size ad cdv)).units + 100 < cLine := by have := hr.un; omega
  exact zag (zko (zan 18 C hr rfl T.f_need_row (zae (zac (i := 0) rfl (.inl rfl) rfl rfl) (zae (zac (i := 2) rfl (.inl rfl) rfl rfl) (zaj) rfl) rfl) rfl rfl rfl) rfl) (zag (zko (zan 54 C hr rfl T.f_need_rules (zae (zac (i := 0) rfl (.inl rfl) rfl rfl) (zae (zac (i := 1) rfl (.inl rfl) rfl rfl) (zaj) rfl) rfl) rfl rfl rfl) rfl) (zag (za1 (ze2 true rfl T.b_list (zae (zac (i := 2) rfl (.inl rfl) rfl rfl) (zaj) rfl) rfl rfl) (zao (i := 4) nd36 rfl (.inl rfl) (.inl rfl)) rfl rfl rfl) (zag (zfs PassesOwn.never rfl (zjp (zac (i := 3) rfl (.inl rfl) rfl rfl) rfl T.b_enumerate rfl) (zck (l := [5, 6]) rfl nd36 (.cons rfl (.inl rfl) (.inl rfl) (.cons rfl (.inl rfl) (.inl rfl) (.nil)))) (zag (za1 (zan 55 C hr rfl T.f_behind_step (zae (zac (i := 1) rfl (.inl rfl) rfl rfl) (zae (zac (i := 4) rfl (.inl rfl) rfl rfl) (zae (zac (i := 6) rfl (.inl rfl) rfl rfl) (zaj) rfl) rfl) rfl) rfl rfl rfl) (zao (i := 7) nd36 rfl (.inl rfl) (.inl rfl)) rfl rfl rfl) (zag (zbo (zbx hu .isN (zac (i := 7) rfl (.inl rfl) rfl rfl) (zhm) rfl) (zag (zk3) (zak)) (zak)) (zag (za1 (zac (i := 7) rfl (.inl rfl) rfl rfl) (zao (i := 4) nd36 rfl (.inl rfl) (.inl rfl)) rfl rfl rfl) (zak)))) (fun _ => rfl)) (zag (za4 (zac (i := 4) rfl (.inl rfl) rfl rfl)) (zak)))))
theorem znk : za3 ["cell", "at", "primes", "one", "two", "three"] ["cell", "at"] (zaf zdl) := ⟨rfl, rfl, rfl, nd37, rfl, by decide +kernel, by decide +kernel⟩
include T C in
theorem zpa (hr : zbe n (A.deeper (envOfC "_law_spread" (zaf zdl) s.heap.objs.size ad cdv))) :
    DSs fa (zbu CX0 P w K mg base ["cell", "at", "primes", "one", "two", "three"] "_law_spread" (zaf zdl) ad cdv A outer s H E).nox (zaz zdl) (zgl c) := by
  have hu : (A.deeper (envOfC "_law_spread" (zaf zdl) s.heap.objs.size ad cdv)).units + 100 < cLine := by have := hr.un; omega
  exact zag (zbo (zbx hu .ge (zac (i := 0) rfl (.inl rfl) rfl rfl) (zaw false .pow (zal) (zal)) rfl) (zag (za4 (zac (i := 0) rfl (.inl rfl) rfl rfl)) (zak)) (zak)) (zag (za1 (zel false (zae (zal) (zae (zal) (zae (zal) (zae (zal) (zae (zal) (zae (zal) (zae (zal) (zae (zal) (zaj) rfl) rfl) rfl) rfl) rfl) rfl) rfl) rfl)) (zao (i := 2) nd37 rfl (.inl rfl) (.inl rfl)) rfl rfl rfl) (zag (za1 (zaw false .add (zac (i := 2) rfl (.inl rfl) rfl rfl) (zel false (zae (zal) (zae (zal) (zae (zal) (zae (zal) (zae (zal) (zaj) rfl) rfl) rfl) rfl) rfl))) (zao (i := 2) nd37 rfl (.inl rfl) (.inl rfl)) rfl rfl rfl) (zag (za1 (zaw false .mod (zaw false .pow (zaw false .add (zaw false .add (zaw false .mul (zaw false .mod (zac (i := 0) rfl (.inl rfl) rfl rfl) (zal)) (zaw false .add (zaw false .mul (zal) (zac (i := 1) rfl (.inl rfl) rfl rfl)) (zal))) (zaw false .mul (zac (i := 1) rfl (.inl rfl) rfl rfl) (zal))) (zal)) (zal)) (za5 (zac (i := 2) rfl (.inl rfl) rfl rfl) (zaw false .mod (zac (i := 1) rfl (.inl rfl) rfl rfl) (zal)) (fun _ _ => rfl))) (zao (i := 3) nd37 rfl (.inl rfl) (.inl rfl)) rfl rfl rfl) (zag (za1 (zaw false .mod (zaw false .pow (zaw false .add (zaw false .add (zaw false .mul (zac (i := 3) rfl (.inl rfl) rfl rfl) (zaw false .add (zac (i := 1) rfl (.inl rfl) rfl rfl) (zal))) (zaw false .mod (zac (i := 0) rfl (.inl rfl) rfl rfl) (zal))) (zal)) (zal)) (za5 (zac (i := 2) rfl (.inl rfl) rfl rfl) (zaw false .mod (zaw false .add (zac (i := 1) rfl (.inl rfl) rfl rfl) (zal)) (zal)) (fun _ _ => rfl))) (zao (i := 4) nd37 rfl (.inl rfl) (.inl rfl)) rfl rfl rfl) (zag (za1 (zaw false .mod (zaw false .pow (zaw false .add (zaw false .add (zac (i := 4) rfl (.inl rfl) rfl rfl) (zaw false .mod (zac (i := 3) rfl (.inl rfl) rfl rfl) (zal))) (zac (i := 1) rfl (.inl rfl) rfl rfl)) (zal)) (za5 (zac (i := 2) rfl (.inl rfl) rfl rfl) (zaw false .mod (zaw false .add (zac (i := 1) rfl (.inl rfl) rfl rfl) (zal)) (zal)) (fun _ _ => rfl))) (zao (i := 5) nd37 rfl (.inl rfl) (.inl rfl)) rfl rfl rfl) (zag (za4 (zaw false .add (zaw false .mul (zaw false .add (zaw false .mul (zac (i := 3) rfl (.inl rfl) rfl rfl) (zal)) (zac (i := 4) rfl (.inl rfl) rfl rfl)) (zal)) (zac (i := 5) rfl (.inl rfl) rfl rfl))) (zak)))))))
theorem zp4 : za3 ["script", "cells", "k", "cell"] ["script"] (zaf zeg) := ⟨rfl, rfl, rfl, nd38, rfl, by decide +kernel, by decide +kernel⟩
include T C in
theorem zr2 (hr : zbe n (A.deeper (envOfC "_law_open" (zaf zeg) s.heap.objs.size ad cdv))) :
    DSs fa (zbu CX0 P w K mg base ["script", "cells", "k", "cell"] "_law_open" (zaf zeg) ad cdv A outer s H E).nox (zaz zeg) (zho c) := by
  have hu : (A.deeper (envOfC "_law_open" (zaf zeg) s.heap.objs.size ad cdv)).units + 100 < cLine := by have := hr.un; omega
  exact zag (za1 (ze2 true rfl T.b_list (zae (zfi false false true (zac (i := 0) rfl (.inl rfl) rfl rfl) (zfo) (zdi (zal))) (zaj) rfl) rfl rfl) (zao (i := 1) nd38 rfl (.inl rfl) (.inl rfl)) rfl rfl rfl) (zag (zfs PassesOwn.never rfl (zjp (zfi false true true (zac (i := 0) rfl (.inl rfl) rfl rfl) (zdi (zal)) (zdi (zal))) rfl T.b_enumerate rfl) (zck (l := [2, 3]) rfl nd38 (.cons rfl (.inl rfl) (.inl rfl) (.cons rfl (.inl rfl) (.inl rfl) (.nil)))) (zag (zgz (zac (i := 1) rfl (.inl rfl) rfl rfl) (zaw false .mod (zac (i := 2) rfl (.inl rfl) rfl rfl) (zal)) (zaw false .add (za5 (zac (i := 1) rfl (.inl rfl) rfl rfl) (zaw false .mod (zac (i := 2) rfl (.inl rfl) rfl rfl) (zal)) (fun _ _ => rfl)) (zac (i := 3) rfl (.inl rfl) rfl rfl)) (fun _ => rfl) rfl rfl rfl) (zak)) (fun _ => rfl)) (zag (za4 (zel true (zae (zac (i := 1) rfl (.inl rfl) rfl rfl) (zae (zal) (zae (zal) (zaj) rfl) rfl) rfl))) (zak)))
theorem zp7 : za3 ["pen"] ["pen"] (zaf zei) := ⟨rfl, rfl, rfl, nd39, rfl, by decide +kernel, by decide +kernel⟩
include T C in
theorem zr5 (hr : zbe n (A.deeper (envOfC "_law_anew" (zaf zei) s.heap.objs.size ad cdv))) :
    DSs fa (zbu CX0 P w K mg base ["pen"] "_law_anew" (zaf zei) ad cdv A outer s H E).nox (zaz zei) (zhq c) := by
  have hu : (A.deeper (envOfC "_law_anew" (zaf zei) s.heap.objs.size ad cdv)).units + 100 < cLine := by have := hr.un; omega
  exact zag (zgz (zac (i := 0) rfl (.inl rfl) rfl rfl) (zal) (zal) (fun _ => rfl) rfl rfl rfl) (zag (za4 (zac (i := 0) rfl (.inl rfl) rfl rfl)) (zak))
theorem zp3 : za3 ["pen", "many", "at", "cell", "found"] ["pen", "many"] (zaf zef) := ⟨rfl, rfl, rfl, nd40, rfl, by decide +kernel, by decide +kernel⟩
include T C in
theorem zr1 (hr : zbe n (A.deeper (envOfC "_law_take" (zaf zef) s.heap.objs.size ad cdv))) :
    DSs fa (zbu CX0 P w K mg base ["pen", "many", "at", "cell", "found"] "_law_take" (zaf zef) ad cdv A outer s H E).nox (zaz zef) (zjj c) := by
  have hu : (A.deeper (envOfC "_law_take" (zaf zef) s.heap.objs.size ad cdv)).units + 100 < cLine := by have := hr.un; omega
  exact zag (zbo (zbx hu .lt (za5 (zac (i := 0) rfl (.inl rfl) rfl rfl) (zal) (fun _ _ => rfl)) (zac (i := 1) rfl (.inl rfl) rfl rfl) rfl) (zag (za1 (za5 (zac (i := 0) rfl (.inl rfl) rfl rfl) (zal) (fun _ _ => rfl)) (zao (i := 2) nd40 rfl (.inl rfl) (.inl rfl)) rfl rfl rfl) (zag (za1 (zal) (zao (i := 3) nd40 rfl (.inl rfl) (.inl rfl)) rfl rfl rfl) (zag (zbo (zbx hu .lt (zac (i := 2) rfl (.inl rfl) rfl rfl) (zco rfl T.b_len (zae (za5 (zac (i := 0) rfl (.inl rfl) rfl rfl) (zal) (fun _ _ => rfl)) (zaj) rfl) rfl rfl) rfl) (zag (za1 (za5 (za5 (zac (i := 0) rfl (.inl rfl) rfl rfl) (zal) (fun _ _ => rfl)) (zac (i := 2) rfl (.inl rfl) rfl rfl) (fun _ _ => rfl)) (zao (i := 3) nd40 rfl (.inl rfl) (.inl rfl)) rfl rfl rfl) (zak)) (zag (zbo (zbx hu .gt (zco rfl T.b_len (zae (za5 (zac (i := 0) rfl (.inl rfl) rfl rfl) (zal) (fun _ _ => rfl)) (zaj) rfl) rfl rfl) (zal) rfl) (zag (za1 (zaw false .mod (za5 (za5 (zac (i := 0) rfl (.inl rfl) rfl rfl) (zal) (fun _ _ => rfl)) (zaw false .mod (zaw false .add (zaw false .mul (zac (i := 2) rfl (.inl rfl) rfl rfl) (zal)) (zal)) (zco rfl T.b_len (zae (za5 (zac (i := 0) rfl (.inl rfl) rfl rfl) (zal) (fun _ _ => rfl)) (zaj) rfl) rfl rfl)) (fun _ _ => rfl)) (zaw false .add (zaw false .pow (zal) (zal)) (zac (i := 2) rfl (.inl rfl) rfl rfl))) (zao (i := 3) nd40 rfl (.inl rfl) (.inl rfl)) rfl rfl rfl) (zak)) (zak)) (zak))) (zag (zgz (zac (i := 0) rfl (.inl rfl) rfl rfl) (zal) (zaw false .add (zac (i := 2) rfl (.inl rfl) rfl rfl) (zal)) (fun _ => rfl) rfl rfl rfl) (zag (zgz (zac (i := 0) rfl (.inl rfl) rfl rfl) (zal) (zan 28 C hr rfl T.f__law_spread (zae (zac (i := 3) rfl (.inl rfl) rfl rfl) (zae (zac (i := 2) rfl (.inl rfl) rfl rfl) (zaj) rfl) rfl) rfl rfl rfl) (fun _ => rfl) rfl rfl rfl) (zak)))))) (zak)) (zag (za1 (zaw false .mod (za5 (zac (i := 0) rfl (.inl rfl) rfl rfl) (zal) (fun _ _ => rfl)) (zac (i := 1) rfl (.inl rfl) rfl rfl)) (zao (i := 4) nd40 rfl (.inl rfl) (.inl rfl)) rfl rfl rfl) (zag (zgz (zac (i := 0) rfl (.inl rfl) rfl rfl) (zal) (zaw false .fdiv (za5 (zac (i := 0) rfl (.inl rfl) rfl rfl) (zal) (fun _ _ => rfl)) (zac (i := 1) rfl (.inl rfl) rfl rfl)) (fun _ => rfl) rfl rfl rfl) (zag (za4 (zac (i := 4) rfl (.inl rfl) rfl rfl)) (zak))))
theorem zrx : za3 ["pen", "words", "kind", "word", "other", "found"] ["pen", "words"] (zaf zc4) := ⟨rfl, rfl, rfl, nd41, rfl, by decide +kernel, by decide +kernel⟩
include T C in
theorem ztf (hr : zbe n (A.deeper (envOfC "_law_tab" (zaf zc4) s.heap.objs.size ad cdv))) :
    DSs fa (zbu CX0 P w K mg base ["pen", "words", "kind", "word", "other", "found"] "_law_tab" (zaf zc4) ad cdv A outer s H E).nox (zaz zc4) (zif c) := by
  have hu : (A.deeper (envOfC "_law_tab" (zaf zc4) s.heap.objs.size ad cdv)).units + 100 < cLine := by have := hr.un; omega
  exact zag (za1 (zan 31 C hr rfl T.f__law_take (zae (zac (i := 0) rfl (.inr (.inl rfl)) rfl rfl) (zae (zal) (zaj) rfl) rfl) rfl rfl rfl) (zao (i := 2) nd41 rfl (.inl rfl) (.inl rfl)) rfl rfl rfl) (zag (za1 (zan 31 C hr rfl T.f__law_take (zae (zac (i := 0) rfl (.inr (.inl rfl)) rfl rfl) (zae (zac (i := 1) rfl (.inr (.inl rfl)) rfl rfl) (zaj) rfl) rfl) rfl rfl rfl) (zao (i := 3) nd41 rfl (.inr rfl) (.inl rfl)) rfl rfl rfl) (zag (za1 (zan 31 C hr rfl T.f__law_take (zae (zac (i := 0) rfl (.inr (.inl rfl)) rfl rfl) (zae (zac (i := 1) rfl (.inr (.inl rfl)) rfl rfl) (zaj) rfl) rfl) rfl rfl rfl) (zao (i := 4) nd41 rfl (.inr rfl) (.inl rfl)) rfl rfl rfl) (zag (zbo (zbx hu .lt (zac (i := 2) rfl (.inl rfl) rfl rfl) (zal) rfl) (zag (za4 (zga rfl T.b_tuple (zae (zea false (zca (own := ["k"]) (bn := ["pen", "words", "kind", "word", "other", "found"]) (sc := zaf zc4) (N := ["pen", "words", "kind", "word", "other", "found"]) rfl rfl rfl (by decide +kernel)) rfl (zdn (zac (i := 1) rfl (.inr (.inl rfl)) rfl rfl) rfl T.b_range rfl) (fun cl C0 fp s0 H0 => zao (i := 0) nd44 rfl (.inl rfl) (.inr rfl)) (fun cl C0 fp s0 H0 => zan 31 C hr rfl T.f__law_take (zae (zac (i := 1) rfl (.inr (.inl rfl)) rfl rfl) (zae (zac (i := 2) rfl (.inr (.inl rfl)) rfl rfl) (zaj) rfl) rfl) rfl rfl rfl) rfl (fun _ => rfl)) (zaj) rfl) rfl rfl)) (zak)) (zak)) (zag (zbo (zbx hu .eq (zac (i := 2) rfl (.inl rfl) rfl rfl) (zal) rfl) (zag (za4 (zga rfl T.b_tuple (zae (zea false (zca (own := ["k"]) (bn := ["pen", "words", "kind", "word", "other", "found"]) (sc := zaf zc4) (N := ["pen", "words", "kind", "word", "other", "found"]) rfl rfl rfl (by decide +kernel)) rfl (zdn (zac (i := 1) rfl (.inr (.inl rfl)) rfl rfl) rfl T.b_range rfl) (fun cl C0 fp s0 H0 => zao (i := 0) nd43 rfl (.inl rfl) (.inr rfl)) (fun cl C0 fp s0 H0 => zaw false .mod (zaw false .add (zaw false .add (zac (i := 0) rfl (.inl rfl) rfl rfl) (zal)) (zac (i := 4) rfl (.inr (.inl rfl)) rfl rfl)) (zac (i := 2) rfl (.inr (.inl rfl)) rfl rfl)) rfl (fun _ => rfl)) (zaj) rfl) rfl rfl)) (zak)) (zak)) (zag (zbo (zbx hu .eq (zac (i := 2) rfl (.inl rfl) rfl rfl) (zal) rfl) (zag (za4 (zga rfl T.b_tuple (zae (zea false (zca (own := ["k"]) (bn := ["pen", "words", "kind", "word", "other", "found"]) (sc := zaf zc4) (N := ["pen", "words", "kind", "word", "other", "found"]) rfl rfl rfl (by decide +kernel)) rfl (zdn (zac (i := 1) rfl (.inr (.inl rfl)) rfl rfl) rfl T.b_range rfl) (fun cl C0 fp s0 H0 => zao (i := 0) nd42 rfl (.inl rfl) (.inr rfl)) (fun cl C0 fp s0 H0 => zmp (zbx hu .eq (zac (i := 0) rfl (.inl rfl) rfl rfl) (zac (i := 4) rfl (.inr (.inl rfl)) rfl rfl) rfl) (zac (i := 5) rfl (.inr (.inl rfl)) rfl rfl) (zac (i := 0) rfl (.inl rfl) rfl rfl)) rfl (fun _ => rfl)) (zaj) rfl) rfl rfl)) (zak)) (zak)) (zag (zbo (zbx hu .eq (zac (i := 2) rfl (.inl rfl) rfl rfl) (zal) rfl) (zag (za4 (zaw false .mul (zd3 (zae (zac (i := 3) rfl (.inr (.inl rfl)) rfl rfl) (zaj) rfl)) (zac (i := 1) rfl (.inr (.inl rfl)) rfl rfl))) (zak)) (zak)) (zag (za1 (zzs true rfl (zac (i := 1) rfl (.inr (.inl rfl)) rfl rfl) rfl T.b_list rfl T.b_range rfl rfl) (zao (i := 5) nd41 rfl (.inl rfl) (.inl rfl)) rfl rfl rfl) (zag (zgz (zac (i := 5) rfl (.inl rfl) rfl rfl) (zac (i := 3) rfl (.inr (.inl rfl)) rfl rfl) (zac (i := 4) rfl (.inr (.inl rfl)) rfl rfl) (fun _ => rfl) rfl rfl rfl) (zag (zgz (zac (i := 5) rfl (.inl rfl) rfl rfl) (zac (i := 4) rfl (.inr (.inl rfl)) rfl rfl) (zac (i := 3) rfl (.inr (.inl rfl)) rfl rfl) (fun _ => rfl) rfl rfl rfl) (zag (za4 (zga rfl T.b_tuple (zae (zac (i := 5) rfl (.inl rfl) rfl rfl) (zaj) rfl) rfl rfl)) (zak)))))))))))
theorem zp6 : za3 ["pen", "words", "places", "kind", "price", "at", "other"] ["pen", "words", "places"] (zaf zds) := ⟨rfl, rfl, rfl, nd45, rfl, by decide +kernel, by decide +kernel⟩
include T C in
theorem zr4 (hr : zbe n (A.deeper (envOfC "_law_deed" (zaf zds) s.heap.objs.size ad cdv))) :
    DSs fa (zbu CX0 P w K mg base ["pen", "words", "places", "kind", "price", "at", "other"] "_law_deed" (zaf zds) ad cdv A outer s H E).nox (zaz zds) (zhp c) := by
  have hu : (A.deeper (envOfC "_law_deed" (zaf zds) s.heap.objs.size ad cdv)).units + 100 < cLine := by have := hr.un; omega
  exact zag (za1 (zan 31 C hr rfl T.f__law_take (zae (zac (i := 0) rfl (.inr (.inl rfl)) rfl rfl) (zae (zal) (zaj) rfl) rfl) rfl rfl rfl) (zao (i := 3) nd45 rfl (.inl rfl) (.inl rfl)) rfl rfl rfl) (zag (za1 (zaw false .add (zal) (zan 31 C hr rfl T.f__law_take (zae (zac (i := 0) rfl (.inr (.inl rfl)) rfl rfl) (zae (zal) (zaj) rfl) rfl) rfl rfl rfl)) (zao (i := 4) nd45 rfl (.inl rfl) (.inl rfl)) rfl rfl rfl) (zag (za1 (zan 31 C hr rfl T.f__law_take (zae (zac (i := 0) rfl (.inr (.inl rfl)) rfl rfl) (zae (zac (i := 2) rfl (.inl rfl) rfl rfl) (zaj) rfl) rfl) rfl rfl rfl) (zao (i := 5) nd45 rfl (.inl rfl) (.inl rfl)) rfl rfl rfl) (zag (za1 (zan 31 C hr rfl T.f__law_take (zae (zac (i := 0) rfl (.inr (.inl rfl)) rfl rfl) (zae (zac (i := 2) rfl (.inl rfl) rfl rfl) (zaj) rfl) rfl) rfl rfl rfl) (zao (i := 6) nd45 rfl (.inl rfl) (.inl rfl)) rfl rfl rfl) (zag (zbo (zbx hu .lt (zac (i := 3) rfl (.inl rfl) rfl rfl) (zal) rfl) (zag (za4 (zd3 (zae (zi1) (zae (zac (i := 5) rfl (.inl rfl) rfl rfl) (zae (zan 32 C hr rfl T.f__law_tab (zae (zac (i := 0) rfl (.inr (.inl rfl)) rfl rfl) (zae (zac (i := 1) rfl (.inr (.inl rfl)) rfl rfl) (zaj) rfl) rfl) rfl rfl rfl) (zae (zac (i := 4) rfl (.inl rfl) rfl rfl) (zaj) rfl) rfl) rfl) rfl))) (zak)) (zak)) (zag (zbo (zbx hu .lt (zac (i := 3) rfl (.inl rfl) rfl rfl) (zal) rfl) (zag (za4 (zd3 (zae (zi1) (zae (zac (i := 5) rfl (.inl rfl) rfl rfl) (zae (zmp (zbx hu .eq (zac (i := 3) rfl (.inl rfl) rfl rfl) (zal) rfl) (zaw false .mod (zaw false .add (zac (i := 5) rfl (.inl rfl) rfl rfl) (zal)) (zac (i := 2) rfl (.inl rfl) rfl rfl)) (zac (i := 6) rfl (.inl rfl) rfl rfl)) (zae (zac (i := 4) rfl (.inl rfl) rfl rfl) (zaj) rfl) rfl) rfl) rfl))) (zak)) (zak)) (zag (zbo (zbx hu .eq (zac (i := 3) rfl (.inl rfl) rfl rfl) (zal) rfl) (zag (za4 (zd3 (zae (zi1) (zae (zac (i := 5) rfl (.inl rfl) rfl rfl) (zae (zan 31 C hr rfl T.f__law_take (zae (zac (i := 0) rfl (.inr (.inl rfl)) rfl rfl) (zae (zac (i := 1) rfl (.inr (.inl rfl)) rfl rfl) (zaj) rfl) rfl) rfl rfl rfl) (zae (zac (i := 4) rfl (.inl rfl) rfl rfl) (zaj) rfl) rfl) rfl) rfl))) (zak)) (zak)) (zag (za4 (zd3 (zae (zi1) (zae (zac (i := 5) rfl (.inl rfl) rfl rfl) (zae (zac (i := 6) rfl (.inl rfl) rfl rfl) (zae (zga rfl T.b_tuple (zae (zea false (zca (own := ["k"]) (bn := ["pen", "words", "places", "kind", "price", "at", "other"]) (sc := zaf zds) (N := ["pen", "words", "places", "kind", "price", "at", "other"]) rfl rfl rfl (by decide +kernel)) rfl (zdn (zac (i := 1) rfl (.inr (.inl rfl)) rfl rfl) rfl T.b_range rfl) (fun cl C0 fp s0 H0 => zao (i := 0) nd46 rfl (.inl rfl) (.inr rfl)) (fun cl C0 fp s0 H0 => zan 32 C hr rfl T.f__law_tab (zae (zac (i := 1) rfl (.inr (.inl rfl)) rfl rfl) (zae (zac (i := 2) rfl (.inr (.inl rfl)) rfl rfl) (zaj) rfl) rfl) rfl rfl rfl) rfl (fun _ => rfl)) (zaj) rfl) rfl rfl) (zae (zac (i := 4) rfl (.inl rfl) rfl rfl) (zaj) rfl) rfl) rfl) rfl) rfl))) (zak))))))))
theorem zmk : za3 ["pen", "words", "places", "most", "deeds", "k", "again", "deed"] ["pen", "words", "places", "most"] (zaf zc9) := ⟨rfl, rfl, rfl, zkt, rfl, by decide +kernel, by decide +kernel⟩
include T C in
theorem znu (hr : zbe n (A.deeper (envOfC "_law_machine" (zaf zc9) s.heap.objs.size ad cdv))) :
    DSs fa (zbu CX0 P w K mg base ["pen", "words", "places", "most", "deeds", "k", "again", "deed"] "_law_machine" (zaf zc9) ad cdv A outer s H E).nox (zaz zc9) (zgf c) := by
  have hu : (A.deeper (envOfC "_law_machine" (zaf zc9) s.heap.objs.size ad cdv)).units + 100 < cLine := by have := hr.un; omega
  exact zag (za1 (zaw false .add (zal) (zan 31 C hr rfl T.f__law_take (zae (zac (i := 0) rfl (.inl rfl) rfl rfl) (zae (zaw false .sub (zac (i := 1) rfl (.inl rfl) rfl rfl) (zal)) (zaj) rfl) rfl) rfl rfl rfl)) (zao (i := 1) zkt rfl (.inl rfl) (.inl rfl)) rfl rfl rfl) (zag (za1 (zaw false .add (zal) (zan 31 C hr rfl T.f__law_take (zae (zac (i := 0) rfl (.inl rfl) rfl rfl) (zae (zac (i := 2) rfl (.inl rfl) rfl rfl) (zaj) rfl) rfl) rfl rfl rfl)) (zao (i := 2) zkt rfl (.inl rfl) (.inl rfl)) rfl rfl rfl) (zag (za1 (zel true (zaj)) (zao (i := 4) zkt rfl (.inl rfl) (.inl rfl)) rfl rfl rfl) (zag (zfs PassesOwn.never rfl (zdn (zaw false .add (zal) (zan 31 C hr rfl T.f__law_take (zae (zac (i := 0) rfl (.inl rfl) rfl rfl) (zae (zac (i := 3) rfl (.inl rfl) rfl rfl) (zaj) rfl) rfl) rfl rfl rfl)) rfl T.b_range rfl) (zao (i := 5) zkt rfl (.inl rfl) (.inl rfl)) (zag (za1 (zan 31 C hr rfl T.f__law_take (zae (zac (i := 0) rfl (.inl rfl) rfl rfl) (zae (zal) (zaj) rfl) rfl) rfl rfl rfl) (zao (i := 6) zkt rfl (.inl rfl) (.inl rfl)) rfl rfl rfl) (zag (za1 (zan 33 C hr rfl T.f__law_deed (zae (zac (i := 0) rfl (.inl rfl) rfl rfl) (zae (zac (i := 1) rfl (.inl rfl) rfl rfl) (zae (zac (i := 2) rfl (.inl rfl) rfl rfl) (zaj) rfl) rfl) rfl) rfl rfl rfl) (zao (i := 7) zkt rfl (.inl rfl) (.inl rfl)) rfl rfl rfl) (zag (zbo (q_w (q_and (zbx hu .eq (zac (i := 6) rfl (.inl rfl) rfl rfl) (zal) rfl) (zu9 (zbx hu .ne (zac (i := 4) rfl (.inl rfl) rfl rfl) (zel false (zaj)) rfl)))) (zag (za1 (zaw false .add (zfi false false true (za5 (zac (i := 4) rfl (.inl rfl) rfl rfl) (zan 31 C hr rfl T.f__law_take (zae (zac (i := 0) rfl (.inl rfl) rfl rfl) (zae (zco rfl T.b_len (zae (zac (i := 4) rfl (.inl rfl) rfl rfl) (zaj) rfl) rfl rfl) (zaj) rfl) rfl) rfl rfl rfl) (fun _ _ => rfl)) (zfo) (zdi (zmo (zal)))) (zd3 (zae (za5 (zac (i := 7) rfl (.inl rfl) rfl rfl) (zmo (zal)) (fun _ _ => rfl)) (zaj) rfl))) (zao (i := 7) zkt rfl (.inl rfl) (.inl rfl)) rfl rfl rfl) (zak)) (zak)) (zag (zmn (zac (i := 4) rfl (.inl rfl) rfl rfl) (zac (i := 7) rfl (.inl rfl) rfl rfl) rfl rfl rfl rfl) (zak))))) (fun _ => rfl)) (zag (za4 (zd3 (zae (zac (i := 1) rfl (.inl rfl) rfl rfl) (zae (zac (i := 2) rfl (.inl rfl) rfl rfl) (zae (zga rfl T.b_tuple (zae (zac (i := 4) rfl (.inl rfl) rfl rfl) (zaj) rfl) rfl rfl) (zaj) rfl) rfl) rfl))) (zak)))))
theorem zry : za3 ["pen", "machine", "most", "kind", "many", "found"] ["pen", "machine", "most"] (zaf zd7) := ⟨rfl, rfl, rfl, nd48, rfl, by decide +kernel, by decide +kernel⟩
include T C in
theorem ztg (hr : zbe n (A.deeper (envOfC "_law_row" (zaf zd7) s.heap.objs.size ad cdv))) :
    DSs fa (zbu CX0 P w K mg base ["pen", "machine", "most", "kind", "many", "found"] "_law_row" (zaf zd7) ad cdv A outer s H E).nox (zaz zd7) (zig c) := by
  have hu : (A.deeper (envOfC "_law_row" (zaf zd7) s.heap.objs.size ad cdv)).units + 100 < cLine := by have := hr.un; omega
  exact zag (za1 (zan 31 C hr rfl T.f__law_take (zae (zac (i := 0) rfl (.inr (.inl rfl)) rfl rfl) (zae (zal) (zaj) rfl) rfl) rfl rfl rfl) (zao (i := 3) nd48 rfl (.inl rfl) (.inl rfl)) rfl rfl rfl) (zag (za1 (zmp (zbx hu .eq (zac (i := 3) rfl (.inl rfl) rfl rfl) (zal) rfl) (zac (i := 2) rfl (.inl rfl) rfl rfl) (zan 31 C hr rfl T.f__law_take (zae (zac (i := 0) rfl (.inr (.inl rfl)) rfl rfl) (zae (zaw false .add (zac (i := 2) rfl (.inl rfl) rfl rfl) (zal)) (zaj) rfl) rfl) rfl rfl rfl)) (zao (i := 4) nd48 rfl (.inl rfl) (.inl rfl)) rfl rfl rfl) (zag (zsb false (zca (own := ["k"]) (bn := ["pen", "machine", "most", "kind", "many", "found"]) (sc := zaf zd7) (N := ["pen", "machine", "most", "kind", "many", "found"]) rfl rfl rfl (by decide +kernel)) rfl (zdn (zac (i := 4) rfl (.inl rfl) rfl rfl) rfl T.b_range rfl) (fun cl C0 fp s0 H0 => zao (i := 0) nd49 rfl (.inl rfl) (.inr rfl)) (fun cl C0 fp s0 H0 => zan 31 C hr rfl T.f__law_take (zae (zac (i := 1) rfl (.inr (.inl rfl)) rfl rfl) (zae (zco rfl T.b_len (zae (za5 (zac (i := 2) rfl (.inr (.inl rfl)) rfl rfl) (zal) (fun _ _ => rfl)) (zaj) rfl) rfl rfl) (zaj) rfl) rfl) rfl rfl rfl) rfl (fun _ => rfl) nd48 rfl rfl rfl) (zag (zbo (zbx hu .eq (zac (i := 3) rfl (.inl rfl) rfl rfl) (zal) rfl) (zag (za1 (zfi false false true (zaw false .mul (zfi false false true (zac (i := 5) rfl (.inl rfl) rfl rfl) (zfo) (zdi (zal))) (zac (i := 4) rfl (.inl rfl) rfl rfl)) (zfo) (zdi (zac (i := 4) rfl (.inl rfl) rfl rfl))) (zao (i := 5) nd48 rfl (.inl rfl) (.inl rfl)) rfl rfl rfl) (zak)) (zak)) (zag (za4 (zac (i := 5) rfl (.inl rfl) rfl rfl)) (zak)))))
theorem zo7 : za3 ["deed", "end", "here", "own"] ["deed", "end"] (zaf zdz) := ⟨rfl, rfl, rfl, nd50, rfl, by decide +kernel, by decide +kernel⟩
include T C in
theorem zqk (hr : zbe n (A.deeper (envOfC "_law_after" (zaf zdz) s.heap.objs.size ad cdv))) :
    DSs fa (zbu CX0 P w K mg base ["deed", "end", "here", "own"] "_law_after" (zaf zdz) ad cdv A outer s H E).nox (zaz zdz) (zg9 c) := by
  have hu : (A.deeper (envOfC "_law_after" (zaf zdz) s.heap.objs.size ad cdv)).units + 100 < cLine := by have := hr.un; omega
  exact zag (za1 (ze2 true rfl T.b_list (zae (zac (i := 1) rfl (.inl rfl) rfl rfl) (zaj) rfl) rfl rfl) (zao (i := 2) nd50 rfl (.inl rfl) (.inl rfl)) rfl rfl rfl) (zag (za1 (za5 (zac (i := 1) rfl (.inl rfl) rfl rfl) (za5 (zac (i := 0) rfl (.inl rfl) rfl rfl) (zal) (fun _ _ => rfl)) (fun _ _ => rfl)) (zao (i := 3) nd50 rfl (.inl rfl) (.inl rfl)) rfl rfl rfl) (zag (zbo (zbx hu .eq (za5 (zac (i := 0) rfl (.inl rfl) rfl rfl) (zal) (fun _ _ => rfl)) (zi1) rfl) (zag (zgz (zac (i := 2) rfl (.inl rfl) rfl rfl) (za5 (zac (i := 0) rfl (.inl rfl) rfl rfl) (zal) (fun _ _ => rfl)) (za5 (za5 (zac (i := 0) rfl (.inl rfl) rfl rfl) (zal) (fun _ _ => rfl)) (zac (i := 3) rfl (.inl rfl) rfl rfl) (fun _ _ => rfl)) (fun _ => rfl) rfl rfl rfl) (zak)) (zak)) (zag (zbo (zbx hu .eq (za5 (zac (i := 0) rfl (.inl rfl) rfl rfl) (zal) (fun _ _ => rfl)) (zi1) rfl) (zag (zgz (zac (i := 2) rfl (.inl rfl) rfl rfl) (za5 (zac (i := 0) rfl (.inl rfl) rfl rfl) (zal) (fun _ _ => rfl)) (za5 (za5 (za5 (zac (i := 0) rfl (.inl rfl) rfl rfl) (zal) (fun _ _ => rfl)) (zac (i := 3) rfl (.inl rfl) rfl rfl) (fun _ _ => rfl)) (za5 (zac (i := 1) rfl (.inl rfl) rfl rfl) (za5 (zac (i := 0) rfl (.inl rfl) rfl rfl) (zal) (fun _ _ => rfl)) (fun _ _ => rfl)) (fun _ _ => rfl)) (fun _ => rfl) rfl rfl rfl) (zak)) (zak)) (zag (zbo (zbx hu .eq (za5 (zac (i := 0) rfl (.inl rfl) rfl rfl) (zal) (fun _ _ => rfl)) (zi1) rfl) (zag (zgz (zac (i := 2) rfl (.inl rfl) rfl rfl) (za5 (zac (i := 0) rfl (.inl rfl) rfl rfl) (zal) (fun _ _ => rfl)) (za5 (zac (i := 1) rfl (.inl rfl) rfl rfl) (za5 (zac (i := 0) rfl (.inl rfl) rfl rfl) (zal) (fun _ _ => rfl)) (fun _ _ => rfl)) (fun _ => rfl) rfl rfl rfl) (zak)) (zak)) (zag (zbo (zbx hu .eq (za5 (zac (i := 0) rfl (.inl rfl) rfl rfl) (zal) (fun _ _ => rfl)) (zi1) rfl) (zag (zgz (zac (i := 2) rfl (.inl rfl) rfl rfl) (za5 (zac (i := 0) rfl (.inl rfl) rfl rfl) (zal) (fun _ _ => rfl)) (za5 (zac (i := 0) rfl (.inl rfl) rfl rfl) (zal) (fun _ _ => rfl)) (fun _ => rfl) rfl rfl rfl) (zak)) (zak)) (zag (za4 (zga rfl T.b_tuple (zae (zac (i := 2) rfl (.inl rfl) rfl rfl) (zaj) rfl) rfl rfl)) (zak)))))))
theorem znn : za3 ["machine"] ["machine"] (zaf zci) := ⟨rfl, rfl, rfl, nd51, rfl, by decide +kernel, by decide +kernel⟩
include T C in
theorem zpd (hr : zbe n (A.deeper (envOfC "_law_begins" (zaf zci) s.heap.objs.size ad cdv))) :
    DSs fa (zbu CX0 P w K mg base ["machine"] "_law_begins" (zaf zci) ad cdv A outer s H E).nox (zaz zci) (zgo c) := by
  have hu : (A.deeper (envOfC "_law_begins" (zaf zci) s.heap.objs.size ad cdv)).units + 100 < cLine := by have := hr.un; omega
  exact zag (zbo (zbx hu .eq (za5 (zac (i := 0) rfl (.inr (.inl rfl)) rfl rfl) (zal) (fun _ _ => rfl)) (zal) rfl) (zag (za4 (zea false (zca (own := ["word"]) (bn := ["machine"]) (sc := zaf zci) (N := ["machine"]) rfl rfl rfl (by decide +kernel)) rfl (zdn (za5 (zac (i := 0) rfl (.inr (.inl rfl)) rfl rfl) (zal) (fun _ _ => rfl)) rfl T.b_range rfl) (fun cl C0 fp s0 H0 => zao (i := 0) nd53 rfl (.inl rfl) (.inr rfl)) (fun cl C0 fp s0 H0 => zd3 (zae (zac (i := 0) rfl (.inl rfl) rfl rfl) (zaj) rfl)) rfl (fun _ => rfl))) (zak)) (zak)) (zag (za4 (zea false (zca (own := ["k"]) (bn := ["machine"]) (sc := zaf zci) (N := ["machine"]) rfl rfl rfl (by decide +kernel)) rfl (zdn (zaw false .mul (za5 (zac (i := 0) rfl (.inr (.inl rfl)) rfl rfl) (zal) (fun _ _ => rfl)) (za5 (zac (i := 0) rfl (.inr (.inl rfl)) rfl rfl) (zal) (fun _ _ => rfl))) rfl T.b_range rfl) (fun cl C0 fp s0 H0 => zao (i := 0) nd52 rfl (.inl rfl) (.inr rfl)) (fun cl C0 fp s0 H0 => zd3 (zae (zaw false .fdiv (zac (i := 0) rfl (.inl rfl) rfl rfl) (za5 (zac (i := 1) rfl (.inr (.inl rfl)) rfl rfl) (zal) (fun _ _ => rfl))) (zae (zaw false .mod (zac (i := 0) rfl (.inl rfl) rfl rfl) (za5 (zac (i := 1) rfl (.inr (.inl rfl)) rfl rfl) (zal) (fun _ _ => rfl))) (zaj) rfl) rfl)) rfl (fun _ => rfl))) (zak))
theorem zp5 : za3 ["machine", "row", "found", "end", "number"] ["machine", "row"] (zaf zeh) := ⟨rfl, rfl, rfl, nd54, rfl, by decide +kernel, by decide +kernel⟩
include T C in
theorem zr3 (hr : zbe n (A.deeper (envOfC "_law_ends" (zaf zeh) s.heap.objs.size ad cdv))) :
    DSs fa (zbu CX0 P w K mg base ["machine", "row", "found", "end", "number"] "_law_ends" (zaf zeh) ad cdv A outer s H E).nox (zaz zeh) (zd9 c) := by
  have hu : (A.deeper (envOfC "_law_ends" (zaf zeh) s.heap.objs.size ad cdv)).units + 100 < cLine := by have := hr.un; omega
  exact zag (za1 (zel true (zaj)) (zao (i := 2) nd54 rfl (.inl rfl) (.inl rfl)) rfl rfl rfl) (zag (zfs PassesOwn.never rfl (zf3 (zan 42 C hr rfl T.f__law_begins (zae (zac (i := 0) rfl (.inl rfl) rfl rfl) (zaj) rfl) rfl rfl rfl)) (zao (i := 3) nd54 rfl (.inl rfl) (.inl rfl)) (zag (zfs PassesOwn.never rfl (zf3 (zac (i := 1) rfl (.inl rfl) rfl rfl)) (zao (i := 4) nd54 rfl (.inl rfl) (.inl rfl)) (zag (za1 (zan 41 C hr rfl T.f__law_after (zae (za5 (za5 (zac (i := 0) rfl (.inl rfl) rfl rfl) (zal) (fun _ _ => rfl)) (zac (i := 4) rfl (.inl rfl) rfl rfl) (fun _ _ => rfl)) (zae (zac (i := 3) rfl (.inl rfl) rfl rfl) (zaj) rfl) rfl) rfl rfl rfl) (zao (i := 3) nd54 rfl (.inl rfl) (.inl rfl)) rfl rfl rfl) (zak)) (fun _ => rfl)) (zag (zmn (zac (i := 2) rfl (.inl rfl) rfl rfl) (zac (i := 3) rfl (.inl rfl) rfl rfl) rfl rfl rfl rfl) (zak))) (fun _ => rfl)) (zag (za4 (zga rfl T.b_tuple (zae (zac (i := 2) rfl (.inl rfl) rfl rfl) (zaj) rfl) rfl rfl)) (zak)))
theorem zkh : za3 ["pen", "machine", "some", "found", "k", "one", "other"] ["pen", "machine"] (zaf zb5) := ⟨rfl, rfl, rfl, nd55, rfl, by decide +kernel, by decide +kernel⟩
include T C in
theorem zks (hr : zbe n (A.deeper (envOfC "_law_alike_pairs" (zaf zb5) s.heap.objs.size ad cdv))) :
    DSs fa (zbu CX0 P w K mg base ["pen", "machine", "some", "found", "k", "one", "other"] "_law_alike_pairs" (zaf zb5) ad cdv A outer s H E).nox (zaz zb5) (zcy c) := by
  have hu : (A.deeper (envOfC "_law_alike_pairs" (zaf zb5) s.heap.objs.size ad cdv)).units + 100 < cLine := by have := hr.un; omega
  exact zag (za1 (zaw false .add (zea false (zca (own := ["k"]) (bn := ["pen", "machine", "some", "found", "k%", "one", "other"]) (sc := zaf zb5) (N := ["pen", "machine", "some", "found", "k", "one", "other"]) rfl rfl rfl (by decide +kernel)) rfl (zdn (zal) rfl T.b_range rfl) (fun cl C0 fp s0 H0 => zao (i := 0) nd56 rfl (.inl rfl) (.inr rfl)) (fun cl C0 fp s0 H0 => zan 35 C hr rfl T.f__law_row (zae (zac (i := 1) rfl (.inr (.inl rfl)) rfl rfl) (zae (zac (i := 2) rfl (.inr (.inl rfl)) rfl rfl) (zae (zal) (zaj) rfl) rfl) rfl) rfl rfl rfl) rfl (fun _ => rfl)) (zel false (zae (zel false (zaj)) (zae (zel false (zae (zal) (zaj) rfl)) (zaj) rfl) rfl))) (zao (i := 2) nd55 rfl (.inl rfl) (.inl rfl)) rfl rfl rfl) (zag (za1 (zel true (zae (zd3 (zae (za5 (zac (i := 2) rfl (.inl rfl) rfl rfl) (zal) (fun _ _ => rfl)) (zae (ze2 false rfl T.b_list (zae (za5 (zac (i := 2) rfl (.inl rfl) rfl rfl) (zal) (fun _ _ => rfl)) (zaj) rfl) rfl rfl) (zaj) rfl) rfl)) (zaj) rfl)) (zao (i := 3) nd55 rfl (.inl rfl) (.inl rfl)) rfl rfl rfl) (zag (zfs PassesOwn.never rfl (zjp (zac (i := 2) rfl (.inl rfl) rfl rfl) rfl T.b_enumerate rfl) (zck (l := [4, 5]) rfl nd55 (.cons rfl (.inl rfl) (.inl rfl) (.cons rfl (.inl rfl) (.inl rfl) (.nil)))) (zag (zfs PassesOwn.never rfl (zf3 (zfi false false true (zac (i := 2) rfl (.inl rfl) rfl rfl) (zfo) (zdi (zac (i := 4) rfl (.inl rfl) rfl rfl)))) (zao (i := 6) nd55 rfl (.inl rfl) (.inl rfl)) (zag (zbo (q_w (q_and (zbx hu .ne (zac (i := 5) rfl (.inl rfl) rfl rfl) (zac (i := 6) rfl (.inl rfl) rfl rfl) rfl) (zu9 (zbx hu .eq (zan 44 C hr rfl T.f__law_ends (zae (zac (i := 1) rfl (.inr (.inl rfl)) rfl rfl) (zae (zac (i := 5) rfl (.inl rfl) rfl rfl) (zaj) rfl) rfl) rfl rfl rfl) (zan 44 C hr rfl T.f__law_ends (zae (zac (i := 1) rfl (.inr (.inl rfl)) rfl rfl) (zae (zac (i := 6) rfl (.inl rfl) rfl rfl) (zaj) rfl) rfl) rfl rfl rfl) rfl)))) (zag (zmn (zac (i := 3) rfl (.inl rfl) rfl rfl) (zd3 (zae (zac (i := 5) rfl (.inl rfl) rfl rfl) (zae (ze2 false rfl T.b_list (zae (zac (i := 6) rfl (.inl rfl) rfl rfl) (zaj) rfl) rfl rfl) (zaj) rfl) rfl)) rfl rfl rfl rfl) (zak)) (zak)) (zak)) (fun _ => rfl)) (zak)) (fun _ => rfl)) (zag (za4 (zac (i := 3) rfl (.inl rfl) rfl rfl)) (zak))))
theorem znm : za3 ["rules"] ["rules"] (zaf zcs) := ⟨rfl, rfl, rfl, nd57, rfl, by decide +kernel, by decide +kernel⟩
include T C in
theorem zpc (hr : zbe n (A.deeper (envOfC "_law_copied" (zaf zcs) s.heap.objs.size ad cdv))) :
    DSs fa (zbu CX0 P w K mg base ["rules"] "_law_copied" (zaf zcs) ad cdv A outer s H E).nox (zaz zcs) (zgn c) := by
  have hu : (A.deeper (envOfC "_law_copied" (zaf zcs) s.heap.objs.size ad cdv)).units + 100 < cLine := by have := hr.un; omega
  exact zag (za4 (zea false (zca (own := ["one", "other"]) (bn := ["rules"]) (sc := zaf zcs) (N := ["rules"]) rfl rfl rfl (by decide +kernel)) rfl (zf3 (zac (i := 0) rfl (.inl rfl) rfl rfl)) (fun cl C0 fp s0 H0 => zck (l := [0, 1]) rfl nd58 (.cons rfl (.inl rfl) (.inr rfl) (.cons rfl (.inl rfl) (.inr rfl) (.nil)))) (fun cl C0 fp s0 H0 => zd3 (zae (ze2 false rfl T.b_list (zae (zac (i := 0) rfl (.inl rfl) rfl rfl) (zaj) rfl) rfl rfl) (zae (ze2 false rfl T.b_list (zae (zac (i := 1) rfl (.inl rfl) rfl rfl) (zaj) rfl) rfl rfl) (zaj) rfl) rfl)) rfl (fun _ => rfl))) (zak)
theorem znl : za3 ["rules", "row", "number", "back", "old", "new", "found"] ["rules", "row", "number", "back"] (zaf zcr) := ⟨rfl, rfl, rfl, nd59, rfl, by decide +kernel, by decide +kernel⟩
include T C in
theorem zpb (hr : zbe n (A.deeper (envOfC "_law_places" (zaf zcr) s.heap.objs.size ad cdv))) :
    DSs fa (zbu CX0 P w K mg base ["rules", "row", "number", "back", "old", "new", "found"] "_law_places" (zaf zcr) ad cdv A outer s H E).nox (zaz zcr) (zgm c) := by
  have hu : (A.deeper (envOfC "_law_places" (zaf zcr) s.heap.objs.size ad cdv)).units + 100 < cLine := by have := hr.un; omega
  exact zag (za1 (ze2 false rfl T.b_list (zae (za5 (za5 (zac (i := 0) rfl (.inl rfl) rfl rfl) (zac (i := 2) rfl (.inl rfl) rfl rfl) (fun _ _ => rfl)) (zu8 (zac (i := 3) rfl (.inl rfl) rfl rfl) rfl T.b_int rfl) (fun _ _ => rfl)) (zaj) rfl) rfl rfl) (zao (i := 4) nd59 rfl (.inr rfl) (.inl rfl)) rfl rfl rfl) (zag (za1 (za5 (za5 (zac (i := 0) rfl (.inl rfl) rfl rfl) (zac (i := 2) rfl (.inl rfl) rfl rfl) (fun _ _ => rfl)) (zaw false .sub (zal) (zu8 (zac (i := 3) rfl (.inl rfl) rfl rfl) rfl T.b_int rfl)) (fun _ _ => rfl)) (zao (i := 5) nd59 rfl (.inl rfl) (.inl rfl)) rfl rfl rfl) (zag (zw6 false (zca (own := ["place"]) (bn := ["rules", "row", "number", "back", "old", "new", "found"]) (sc := zaf zcr) (N := ["rules", "row", "number", "back", "old", "new", "found"]) rfl rfl rfl (by decide +kernel)) rfl (zdn (zaw false .add (zco rfl T.b_len (zae (zac (i := 1) rfl (.inr (.inl rfl)) rfl rfl) (zaj) rfl) rfl rfl) (zal)) rfl T.b_range rfl) (fun cl C0 fp s0 H0 => zao (i := 0) nd60 rfl (.inl rfl) (.inr rfl)) (fun cl C0 fp s0 H0 => zbx hu .eq (zfi false true true (zac (i := 2) rfl (.inr (.inl rfl)) rfl rfl) (zdi (zac (i := 0) rfl (.inl rfl) rfl rfl)) (zdi (zaw false .add (zac (i := 0) rfl (.inl rfl) rfl rfl) (zco rfl T.b_len (zae (zac (i := 5) rfl (.inr (.inl rfl)) rfl rfl) (zaj) rfl) rfl rfl)))) (zac (i := 5) rfl (.inr (.inl rfl)) rfl rfl) rfl) (fun cl C0 fp s0 H0 => zac (i := 0) rfl (.inl rfl) rfl rfl) rfl (fun _ => rfl) nd59 rfl rfl rfl) (zag (za4 (zmp (zbx hu .lt (zaw false .add (zaw false .sub (zco rfl T.b_len (zae (zac (i := 1) rfl (.inr (.inl rfl)) rfl rfl) (zaj) rfl) rfl rfl) (zco rfl T.b_len (zae (zac (i := 4) rfl (.inr (.inl rfl)) rfl rfl) (zaj) rfl) rfl rfl)) (zco rfl T.b_len (zae (zac (i := 5) rfl (.inl rfl) rfl rfl) (zaj) rfl) rfl rfl)) (zal) rfl) (zac (i := 6) rfl (.inl rfl) rfl rfl) (zel false (zaj)))) (zak))))
theorem zp2 : za3 ["pen", "machine", "rules", "row", "steps", "here", "k", "number", "back", "found", "step"] ["pen", "machine", "rules", "row"] (zaf zee) := ⟨rfl, rfl, rfl, zj3, rfl, by decide +kernel, by decide +kernel⟩
include T C in
theorem zr0 (hr : zbe n (A.deeper (envOfC "_law_walk" (zaf zee) s.heap.objs.size ad cdv))) :
    DSs fa (zbu CX0 P w K mg base ["pen", "machine", "rules", "row", "steps", "here", "k", "number", "back", "found", "step"] "_law_walk" (zaf zee) ad cdv A outer s H E).nox (zaz zee) (zhn c) := by
  have hu : (A.deeper (envOfC "_law_walk" (zaf zee) s.heap.objs.size ad cdv)).units + 100 < cLine := by have := hr.un; omega
  exact zag (za1 (zel true (zaj)) (zao (i := 4) zj3 rfl (.inl rfl) (.inl rfl)) rfl rfl rfl) (zag (za1 (zac (i := 3) rfl (.inl rfl) rfl rfl) (zao (i := 5) zj3 rfl (.inl rfl) (.inl rfl)) rfl rfl rfl) (zag (zfs PassesOwn.never rfl (zdn (zaw false .add (zal) (zan 31 C hr rfl T.f__law_take (zae (zac (i := 0) rfl (.inl rfl) rfl rfl) (zae (zal) (zaj) rfl) rfl) rfl rfl rfl)) rfl T.b_range rfl) (zao (i := 6) zj3 rfl (.inl rfl) (.inl rfl)) (zag (za1 (zan 31 C hr rfl T.f__law_take (zae (zac (i := 0) rfl (.inl rfl) rfl rfl) (zae (zco rfl T.b_len (zae (zac (i := 2) rfl (.inl rfl) rfl rfl) (zaj) rfl) rfl rfl) (zaj) rfl) rfl) rfl rfl rfl) (zao (i := 7) zj3 rfl (.inl rfl) (.inl rfl)) rfl rfl rfl) (zag (za1 (zs9 hu .eq (zan 31 C hr rfl T.f__law_take (zae (zac (i := 0) rfl (.inl rfl) rfl rfl) (zae (zal) (zaj) rfl) rfl) rfl rfl rfl) (zal) rfl) (zao (i := 8) zj3 rfl (.inl rfl) (.inl rfl)) rfl rfl rfl) (zag (za1 (zan 61 C hr rfl T.f__law_places (zae (zac (i := 2) rfl (.inl rfl) rfl rfl) (zae (zac (i := 5) rfl (.inl rfl) rfl rfl) (zae (zac (i := 7) rfl (.inl rfl) rfl rfl) (zae (zac (i := 8) rfl (.inl rfl) rfl rfl) (zaj) rfl) rfl) rfl) rfl) rfl rfl rfl) (zao (i := 9) zj3 rfl (.inl rfl) (.inl rfl)) rfl rfl rfl) (zag (zbo (zbx hu .ne (zac (i := 9) rfl (.inl rfl) rfl rfl) (zel false (zaj)) rfl) (zag (za1 (zd3 (zae (za5 (zac (i := 9) rfl (.inl rfl) rfl rfl) (zan 31 C hr rfl T.f__law_take (zae (zac (i := 0) rfl (.inl rfl) rfl rfl) (zae (zco rfl T.b_len (zae (zac (i := 9) rfl (.inl rfl) rfl rfl) (zaj) rfl) rfl rfl) (zaj) rfl) rfl) rfl rfl rfl) (fun _ _ => rfl)) (zae (zac (i := 7) rfl (.inl rfl) rfl rfl) (zae (zac (i := 8) rfl (.inl rfl) rfl rfl) (zaj) rfl) rfl) rfl)) (zao (i := 10) zj3 rfl (.inl rfl) (.inl rfl)) rfl rfl rfl) (zag (za1 (zan 56 C hr rfl T.f_stepped (zae (zac (i := 1) rfl (.inl rfl) rfl rfl) (zae (zan 57 C hr rfl T.f__law_copied (zae (zac (i := 2) rfl (.inl rfl) rfl rfl) (zaj) rfl) rfl rfl rfl) (zae (ze2 false rfl T.b_list (zae (zac (i := 5) rfl (.inl rfl) rfl rfl) (zaj) rfl) rfl rfl) (zae (zel false (zae (zac (i := 10) rfl (.inl rfl) rfl rfl) (zaj) rfl)) (zaj) rfl) rfl) rfl) rfl) rfl rfl rfl) (zao (i := 5) zj3 rfl (.inl rfl) (.inl rfl)) rfl rfl rfl) (zag (zmn (zac (i := 4) rfl (.inl rfl) rfl rfl) (zac (i := 10) rfl (.inl rfl) rfl rfl) rfl rfl rfl rfl) (zak)))) (zak)) (zak))))) (fun _ => rfl)) (zag (za4 (zd3 (zae (zac (i := 4) rfl (.inl rfl) rfl rfl) (zae (zac (i := 5) rfl (.inl rfl) rfl rfl) (zaj) rfl) rfl))) (zak))))
theorem zu0 : za3 ["script", "pen", "turn", "machine", "good", "rules", "row", "steps", "here", "at", "half", "home", "some"] ["script"] (zaf zgw) := ⟨rfl, rfl, rfl, zh2, rfl, by decide +kernel, by decide +kernel⟩
include T C in
theorem p_law (hr : zbe n (A.deeper (envOfC "law" (zaf zgw) s.heap.objs.size ad cdv))) :
    DSs fa (zbu CX0 P w K mg base ["script", "pen", "turn", "machine", "good", "rules", "row", "steps", "here", "at", "half", "home", "some"] "law" (zaf zgw) ad cdv A outer s H E).nox (zaz zgw) (zle c) := by
  have hu : (A.deeper (envOfC "law" (zaf zgw) s.heap.objs.size ad cdv)).units + 100 < cLine := by have := hr.un; omega
  exact zag (za1 (zan 29 C hr rfl T.f__law_open (zae (zac (i := 0) rfl (.inl rfl) rfl rfl) (zaj) rfl) rfl rfl rfl) (zao (i := 1) zh2 rfl (.inr rfl) (.inl rfl)) rfl rfl rfl) (zag (zfs PassesOwn.never rfl (zdn (zal) rfl T.b_range rfl) (zao (i := 2) zh2 rfl (.inl rfl) (.inl rfl)) (zag (za1 (zan 34 C hr rfl T.f__law_machine (zae (zan 30 C hr rfl T.f__law_anew (zae (zac (i := 1) rfl (.inr (.inl rfl)) rfl rfl) (zaj) rfl) rfl rfl rfl) (zae (zal) (zae (zal) (zae (zal) (zaj) rfl) rfl) rfl) rfl) rfl rfl rfl) (zao (i := 3) zh2 rfl (.inl rfl) (.inl rfl)) rfl rfl rfl) (zag (za1 (zan 49 C hr rfl T.f__law_alike_pairs (zae (zac (i := 1) rfl (.inr (.inl rfl)) rfl rfl) (zae (zac (i := 3) rfl (.inl rfl) rfl rfl) (zaj) rfl) rfl) rfl rfl rfl) (zao (i := 4) zh2 rfl (.inr rfl) (.inl rfl)) rfl rfl rfl) (zag (za1 (zaw false .add (zea false (zca (own := ["k"]) (bn := ["script", "pen", "turn", "machine", "good", "rules", "row", "steps", "here", "at", "half", "home", "some"]) (sc := zaf zgw) (N := ["script", "pen", "turn", "machine", "good", "rules", "row", "steps", "here", "at", "half", "home", "some"]) rfl rfl rfl (by decide +kernel)) rfl (zdn (zal) rfl T.b_range rfl) (fun cl C0 fp s0 H0 => zao (i := 0) nd64 rfl (.inl rfl) (.inr rfl)) (fun cl C0 fp s0 H0 => za5 (zac (i := 5) rfl (.inr (.inl rfl)) rfl rfl) (zan 31 C hr rfl T.f__law_take (zae (zac (i := 2) rfl (.inr (.inl rfl)) rfl rfl) (zae (zco rfl T.b_len (zae (zac (i := 5) rfl (.inr (.inl rfl)) rfl rfl) (zaj) rfl) rfl rfl) (zaj) rfl) rfl) rfl rfl rfl) (fun _ _ => rfl)) rfl (fun _ => rfl)) (zel false (zae (za5 (zac (i := 4) rfl (.inr (.inl rfl)) rfl rfl) (zmo (zal)) (fun _ _ => rfl)) (zaj) rfl))) (zao (i := 5) zh2 rfl (.inl rfl) (.inl rfl)) rfl rfl rfl) (zag (za1 (zan 35 C hr rfl T.f__law_row (zae (zac (i := 1) rfl (.inr (.inl rfl)) rfl rfl) (zae (zac (i := 3) rfl (.inl rfl) rfl rfl) (zae (zal) (zaj) rfl) rfl) rfl) rfl rfl rfl) (zao (i := 6) zh2 rfl (.inl rfl) (.inl rfl)) rfl rfl rfl) (zag (za1 (zan 62 C hr rfl T.f__law_walk (zae (zac (i := 1) rfl (.inr (.inl rfl)) rfl rfl) (zae (zac (i := 3) rfl (.inl rfl) rfl rfl) (zae (zac (i := 5) rfl (.inl rfl) rfl rfl) (zae (zac (i := 6) rfl (.inl rfl) rfl rfl) (zaj) rfl) rfl) rfl) rfl) rfl rfl rfl) (zck (l := [7, 8]) rfl zh2 (.cons rfl (.inl rfl) (.inl rfl) (.cons rfl (.inl rfl) (.inl rfl) (.nil)))) rfl rfl rfl) (zag (za1 (zan 31 C hr rfl T.f__law_take (zae (zac (i := 1) rfl (.inr (.inl rfl)) rfl rfl) (zae (zaw false .add (zco rfl T.b_len (zae (zac (i := 7) rfl (.inl rfl) rfl rfl) (zaj) rfl) rfl rfl) (zal)) (zaj) rfl) rfl) rfl rfl rfl) (zao (i := 9) zh2 rfl (.inl rfl) (.inl rfl)) rfl rfl rfl) (zag (za1 (zan 56 C hr rfl T.f_stepped (zae (zac (i := 3) rfl (.inl rfl) rfl rfl) (zae (zan 57 C hr rfl T.f__law_copied (zae (zac (i := 5) rfl (.inl rfl) rfl rfl) (zaj) rfl) rfl rfl rfl) (zae (ze2 false rfl T.b_list (zae (zac (i := 6) rfl (.inl rfl) rfl rfl) (zaj) rfl) rfl rfl) (zae (zfi false false true (zac (i := 7) rfl (.inl rfl) rfl rfl) (zfo) (zdi (zac (i := 9) rfl (.inl rfl) rfl rfl))) (zaj) rfl) rfl) rfl) rfl) rfl rfl rfl) (zao (i := 10) zh2 rfl (.inl rfl) (.inl rfl)) rfl rfl rfl) (zag (zbo (zbx hu .ne (zan 56 C hr rfl T.f_stepped (zae (zac (i := 3) rfl (.inl rfl) rfl rfl) (zae (zan 57 C hr rfl T.f__law_copied (zae (zac (i := 5) rfl (.inl rfl) rfl rfl) (zaj) rfl) rfl rfl rfl) (zae (zac (i := 10) rfl (.inl rfl) rfl rfl) (zae (zfi false true false (zac (i := 7) rfl (.inl rfl) rfl rfl) (zdi (zac (i := 9) rfl (.inl rfl) rfl rfl)) (zfo)) (zaj) rfl) rfl) rfl) rfl) rfl rfl rfl) (zac (i := 8) rfl (.inl rfl) rfl rfl) rfl) (zag (za4 (zew)) (zak)) (zak)) (zag (zbo (zbx hu .ne (zan 56 C hr rfl T.f_stepped (zae (zac (i := 3) rfl (.inl rfl) rfl rfl) (zae (zan 57 C hr rfl T.f__law_copied (zae (zac (i := 5) rfl (.inl rfl) rfl rfl) (zaj) rfl) rfl rfl rfl) (zae (ze2 false rfl T.b_list (zae (zac (i := 6) rfl (.inl rfl) rfl rfl) (zaj) rfl) rfl rfl) (zae (ze2 false rfl T.b_list (zae (zac (i := 7) rfl (.inl rfl) rfl rfl) (zaj) rfl) rfl rfl) (zaj) rfl) rfl) rfl) rfl) rfl rfl rfl) (zac (i := 8) rfl (.inl rfl) rfl rfl) rfl) (zag (za4 (zew)) (zak)) (zak)) (zag (zsb false (zca (own := ["place", "number", "back"]) (bn := ["script", "pen", "turn", "machine", "good", "rules", "row", "steps", "here", "at", "half", "home", "some"]) (sc := zaf zgw) (N := ["script", "pen", "turn", "machine", "good", "rules", "row", "steps", "here", "at", "half", "home", "some"]) rfl rfl rfl (by decide +kernel)) rfl (zf3 (r_rev false (zac (i := 7) rfl (.inl rfl) rfl rfl))) (fun cl C0 fp s0 H0 => zck (l := [0, 1, 2]) rfl nd63 (.cons rfl (.inl rfl) (.inr rfl) (.cons rfl (.inl rfl) (.inr rfl) (.cons rfl (.inl rfl) (.inr rfl) (.nil))))) (fun cl C0 fp s0 H0 => zd3 (zae (zac (i := 0) rfl (.inl rfl) rfl rfl) (zae (zac (i := 1) rfl (.inl rfl) rfl rfl) (zae (r_not (zac (i := 2) rfl (.inl rfl) rfl rfl)) (zaj) rfl) rfl) rfl)) rfl (fun _ => rfl) zh2 rfl rfl rfl) (zag (zbo (zbx hu .ne (zan 56 C hr rfl T.f_stepped (zae (zac (i := 3) rfl (.inl rfl) rfl rfl) (zae (zan 57 C hr rfl T.f__law_copied (zae (zac (i := 5) rfl (.inl rfl) rfl rfl) (zaj) rfl) rfl rfl rfl) (zae (ze2 false rfl T.b_list (zae (zac (i := 8) rfl (.inl rfl) rfl rfl) (zaj) rfl) rfl rfl) (zae (zac (i := 11) rfl (.inl rfl) rfl rfl) (zaj) rfl) rfl) rfl) rfl) rfl rfl rfl) (zac (i := 6) rfl (.inl rfl) rfl rfl) rfl) (zag (za4 (zew)) (zak)) (zak)) (zag (zbo (q_w (zkq (zbx hu .notN (zan 48 C hr rfl T.f_parted (zae (zac (i := 3) rfl (.inl rfl) rfl rfl) (zae (zac (i := 6) rfl (.inl rfl) rfl rfl) (zae (zac (i := 8) rfl (.inl rfl) rfl rfl) (zaj) rfl) rfl) rfl) rfl rfl rfl) (zhm) rfl) (zi3 (zbx hu .notN (zan 54 C hr rfl T.f_need_rules (zae (zac (i := 3) rfl (.inl rfl) rfl rfl) (zae (zel false (zae (zd3 (zae (zac (i := 6) rfl (.inl rfl) rfl rfl) (zae (zac (i := 8) rfl (.inl rfl) rfl rfl) (zaj) rfl) rfl)) (zaj) rfl)) (zaj) rfl) rfl) rfl rfl rfl) (zhm) rfl)))) (zag (za4 (zew)) (zak)) (zak)) (zag (za1 (zan 35 C hr rfl T.f__law_row (zae (zac (i := 1) rfl (.inr (.inl rfl)) rfl rfl) (zae (zac (i := 3) rfl (.inl rfl) rfl rfl) (zae (zal) (zaj) rfl) rfl) rfl) rfl rfl rfl) (zao (i := 12) zh2 rfl (.inl rfl) (.inl rfl)) rfl rfl rfl) (zag (zbo (zbx hu .notN (zan 48 C hr rfl T.f_parted (zae (zac (i := 3) rfl (.inl rfl) rfl rfl) (zae (zaw false .add (zac (i := 12) rfl (.inl rfl) rfl rfl) (zac (i := 6) rfl (.inl rfl) rfl rfl)) (zae (zaw false .add (zac (i := 12) rfl (.inl rfl) rfl rfl) (zac (i := 8) rfl (.inl rfl) rfl rfl)) (zaj) rfl) rfl) rfl) rfl rfl rfl) (zhm) rfl) (zag (za4 (zew)) (zak)) (zak)) (zag (zbo (zbx hu .notN (zan 48 C hr rfl T.f_parted (zae (zac (i := 3) rfl (.inl rfl) rfl rfl) (zae (zaw false .add (zac (i := 6) rfl (.inl rfl) rfl rfl) (zac (i := 12) rfl (.inl rfl) rfl rfl)) (zae (zaw false .add (zac (i := 8) rfl (.inl rfl) rfl rfl) (zac (i := 12) rfl (.inl rfl) rfl rfl)) (zaj) rfl) rfl) rfl) rfl rfl rfl) (zhm) rfl) (zag (za4 (zew)) (zak)) (zak)) (zag (zbo (zbx hu .ne (zan 27 C hr rfl T.f_behaviour (zae (zac (i := 3) rfl (.inl rfl) rfl rfl) (zae (zac (i := 6) rfl (.inl rfl) rfl rfl) (zaj) rfl) rfl) rfl rfl rfl) (zan 27 C hr rfl T.f_behaviour (zae (zac (i := 3) rfl (.inl rfl) rfl rfl) (zae (zac (i := 8) rfl (.inl rfl) rfl rfl) (zaj) rfl) rfl) rfl rfl rfl) rfl) (zag (za4 (zew)) (zak)) (zak)) (zak))))))))))))))))) (fun _ => rfl)) (zag (za4 (zew)) (zak)))
end
end K15
namespace K15
open PySem PySem.Spec PyProof.Rows L2 LD
theorem zx2 : ∀ ns : List Int, ns.length ≤ 63 -> ∃ M, za0 Pg 40 63 [.frz (ns.map D.int)] [] = .ok (.bl true) M := law15 (by repeat' (first | rfl | constructor))
def faOf (l : List (Nat × Addr)) : Fa := fun i => l.lookup i
section
variable {P : Program} {w : World} {K : PySem.W.Frag} {mg : Str -> Option Value} {base : Heap} {f0 f1 f2 f3 f4 f5 f6 f7 f8 f9 f10 f11 f12 f13 f15 f16 f17 f18 f20 f21 f22 f23 f24 f25 f46 f27 f48 f52 f53 f54 f55 f56 f28 f29 f30 f31 f32 f33 f34 f35 f41 f42 f44 f49 f57 f61 f62 f63 : Addr} {fd0 fd1 fd2 fd3 fd4 fd5 fd6 fd7 fd8 fd9 fd10 fd11 fd12 fd13 fd15 fd16 fd17 fd18 fd20 fd21 fd22 fd23 fd24 fd25 fd46 fd27 fd48 fd52 fd53 fd54 fd55 fd56 fd28 fd29 fd30 fd31 fd32 fd33 fd34 fd35 fd41 fd42 fd44 fd49 fd57 fd61 fd62 fd63 : FuncData}
theorem zjt {F : FuncData} {z : List Str} (h : ∀ a : Value, bindArgs F ⟨[a], []⟩ = pure (z.zip [a])) : ∀ us : List Value, us.length = 1 -> bindArgs F ⟨us, []⟩ = pure (z.zip us) := LD.us1 h
theorem zd2 {F : FuncData} {z : List Str} (h : ∀ a b : Value, bindArgs F ⟨[a, b], []⟩ = pure (z.zip [a, b])) : ∀ us : List Value, us.length = 2 -> bindArgs F ⟨us, []⟩ = pure (z.zip us) := LD.us2 h
theorem zik {F : FuncData} {z : List Str} (h : ∀ a b c : Value, bindArgs F ⟨[a, b, c], []⟩ = pure (z.zip [a, b, c])) : ∀ us : List Value, us.length = 3 -> bindArgs F ⟨us, []⟩ = pure (z.zip us) := LD.us3 h
theorem usb4 {F : FuncData} {z : List Str} (h : ∀ a b c d : Value, bindArgs F ⟨[a, b, c, d], []⟩ = pure (z.zip [a, b, c, d])) : ∀ us : List Value, us.length = 4 -> bindArgs F ⟨us, []⟩ = pure (z.zip us) := LD.us4 h
theorem mkf {h : Heap} (x : Str) (st : PySem.Stmt) (f c : Addr) (pm : Str) (t : Tok) (X : K.In h) (G : h.Ns mainGlobals mg) (a : PySem.W.nsIn K mainGlobals x = some (some (.ref f))) (l : K.lookup f = some ⟨.type "function", none, .func (PySem.W.fnOf x x (zij st) (zaz st) (zaf st) .none .none .none (.str pm t) none (.ref c) .none), #[]⟩) (e : PySem.W.codeIn K (.ref c) x = true) (k : PySem.W.keepIn K (.ref f) = true) : ∃ f fd, mg x = some (.ref f) /\ Fun K x x st f fd := LD.mk_fn X G a l e k
theorem mkd {k i j : Nat} {b : Call -> GS} {ps ns : List Str} {st : PySem.Stmt} {x : Str} {fa : Fa} {f : Addr} {fd : FuncData} (sc : za3 ns ps (zaf st)) (hf : fa k = some f) (F : Fun K x x st f fd) (hb : Binds K fd ps []) (h1 : i = ps.length) (h2 : j = ns.length)
    (p : ∀ (c : Call) (n : Nat) (cdv : Value) (A : Around) (outer : List PySem.Env) (s : Shared) (H : Hp) (E : XK), (∀ f, zhc fa P w K mg base n f (c f)) -> zbe n (A.deeper (envOfC x (zaf st) s.heap.objs.size f cdv)) -> DSs fa (zbu CX0 P w K mg base ns x (zaf st) f cdv A outer s H E).nox (zaz st) (b c)) : zpp fa P w K mg base k ⟨i, j, b⟩ := ⟨f, fd, ps, ns, st, x, x, hf, F, hb, sc, h1, h2, p⟩
set_option maxHeartbeats 0 in
theorem z0p (F0 : Fun K "is_between" "is_between" zdy f0 fd0) (F1 : Fun K "is_word" "is_word" zfb f1 fd1) (F2 : Fun K "is_place" "is_place" zev f2 fd2) (F3 : Fun K "is_cost" "is_cost" zfh f3 fd3) (F4 : Fun K "is_tuple_of" "is_tuple_of" zdj f4 fd4) (F5 : Fun K "is_table" "is_table" zd6 f5 fd5) (F6 : Fun K "is_double_table" "is_double_table" zb9 f6 fd6) (F7 : Fun K "is_turn" "is_turn" zfc f7 fd7) (F8 : Fun K "is_join" "is_join" zff f8 fd8) (F9 : Fun K "is_move" "is_move" zfe f9 fd9) (F10 : Fun K "is_put" "is_put" zfy f10 fd10) (F11 : Fun K "is_deed" "is_deed" zfg f11 fd11) (F12 : Fun K "is_machine" "is_machine" zde f12 fd12) (F13 : Fun K "need_machine" "need_machine" zc7 f13 fd13) (F15 : Fun K "beginnings" "beginnings" zdf f15 fd15) (F16 : Fun K "is_deed_number" "is_deed_number" zcl f16 fd16) (F17 : Fun K "need_numbers" "need_numbers" zc6 f17 fd17) (F18 : Fun K "need_row" "need_row" zeu f18 fd18) (F20 : Fun K "turned" "turned" zft f20 fd20) (F21 : Fun K "joined" "joined" zfw f21 fd21) (F22 : Fun K "moved" "moved" zgq f22 fd22) (F23 : Fun K "put_in" "put_in" zfu f23 fd23) (F24 : Fun K "done" "done" zhg f24 fd24) (F25 : Fun K "all_standing" "all_standing" zc8 f25 fd25) (F46 : Fun K "ends_of" "ends_of" zes f46 fd46) (F27 : Fun K "behaviour" "behaviour" zed f27 fd27) (F48 : Fun K "parted" "parted" zfv f48 fd48) (F52 : Fun K "is_row" "is_row" zfx f52 fd52) (F53 : Fun K "is_rule" "is_rule" zfd f53 fd53) (F54 : Fun K "need_rules" "need_rules" zdx f54 fd54) (F55 : Fun K "behind_step" "behind_step" zdk f55 fd55) (F56 : Fun K "stepped" "stepped" zfa f56 fd56) (F28 : Fun K "_law_spread" "_law_spread" zdl f28 fd28) (F29 : Fun K "_law_open" "_law_open" zeg f29 fd29) (F30 : Fun K "_law_anew" "_law_anew" zei f30 fd30) (F31 : Fun K "_law_take" "_law_take" zef f31 fd31) (F32 : Fun K "_law_tab" "_law_tab" zc4 f32 fd32) (F33 : Fun K "_law_deed" "_law_deed" zds f33 fd33) (F34 : Fun K "_law_machine" "_law_machine" zc9 f34 fd34) (F35 : Fun K "_law_row" "_law_row" zd7 f35 fd35) (F41 : Fun K "_law_after" "_law_after" zdz f41 fd41) (F42 : Fun K "_law_begins" "_law_begins" zci f42 fd42) (F44 : Fun K "_law_ends" "_law_ends" zeh f44 fd44) (F49 : Fun K "_law_alike_pairs" "_law_alike_pairs" zb5 f49 fd49) (F57 : Fun K "_law_copied" "_law_copied" zcs f57 fd57) (F61 : Fun K "_law_places" "_law_places" zcr f61 fd61) (F62 : Fun K "_law_walk" "_law_walk" zee f62 fd62) (F63 : Fun K "law" "law" zgw f63 fd63) (T : Txt K w mg (faOf [(0, f0), (1, f1), (2, f2), (3, f3), (4, f4), (5, f5), (6, f6), (7, f7), (8, f8), (9, f9), (10, f10), (11, f11), (12, f12), (13, f13), (15, f15), (16, f16), (17, f17), (18, f18), (20, f20), (21, f21), (22, f22), (23, f23), (24, f24), (25, f25), (46, f46), (27, f27), (48, f48), (52, f52), (53, f53), (54, f54), (55, f55), (56, f56), (28, f28), (29, f29), (30, f30), (31, f31), (32, f32), (33, f33), (34, f34), (35, f35), (41, f41), (42, f42), (44, f44), (49, f49), (57, f57), (61, f61), (62, f62), (63, f63)])) : ∀ f d, Pg f = some d -> zpp (faOf [(0, f0), (1, f1), (2, f2), (3, f3), (4, f4), (5, f5), (6, f6), (7, f7), (8, f8), (9, f9), (10, f10), (11, f11), (12, f12), (13, f13), (15, f15), (16, f16), (17, f17), (18, f18), (20, f20), (21, f21), (22, f22), (23, f23), (24, f24), (25, f25), (46, f46), (27, f27), (48, f48), (52, f52), (53, f53), (54, f54), (55, f55), (56, f56), (28, f28), (29, f29), (30, f30), (31, f31), (32, f32), (33, f33), (34, f34), (35, f35), (41, f41), (42, f42), (44, f44), (49, f49), (57, f57), (61, f61), (62, f62), (63, f63)]) P w K mg base f d := fun f d e => by
  match f, e with
  | 0, e => cases e; exact mkd zo5 rfl F0 (F0.binds fun _ _ _ _ _ _ => zik fun _ _ _ => rfl) rfl rfl (zqi T)
  | 1, e => cases e; exact mkd zs1 rfl F1 (F1.binds fun _ _ _ _ _ _ => zd2 fun _ _ => rfl) rfl rfl (zvk T)
  | 2, e => cases e; exact mkd zrw rfl F2 (F2.binds fun _ _ _ _ _ _ => zd2 fun _ _ => rfl) rfl rfl (zte T)
  | 3, e => cases e; exact mkd zs7 rfl F3 (F3.binds fun _ _ _ _ _ _ => zjt fun _ => rfl) rfl rfl (zvq T)
  | 4, e => cases e; exact mkd zni rfl F4 (F4.binds fun _ _ _ _ _ _ => zd2 fun _ _ => rfl) rfl rfl (zo8 T)
  | 5, e => cases e; exact mkd zrv rfl F5 (F5.binds fun _ _ _ _ _ _ => zd2 fun _ _ => rfl) rfl rfl (ztd T)
  | 6, e => cases e; exact mkd zkm rfl F6 (F6.binds fun _ _ _ _ _ _ => zd2 fun _ _ => rfl) rfl rfl (zlh T)
  | 7, e => cases e; exact mkd zs2 rfl F7 (F7.binds fun _ _ _ _ _ _ => zik fun _ _ _ => rfl) rfl rfl (zvl T)
  | 8, e => cases e; exact mkd zs5 rfl F8 (F8.binds fun _ _ _ _ _ _ => zik fun _ _ _ => rfl) rfl rfl (zvo T)
  | 9, e => cases e; exact mkd zs4 rfl F9 (F9.binds fun _ _ _ _ _ _ => zik fun _ _ _ => rfl) rfl rfl (zvn T)
  | 10, e => cases e; exact mkd zu3 rfl F10 (F10.binds fun _ _ _ _ _ _ => zik fun _ _ _ => rfl) rfl rfl (zxo T)
  | 11, e => cases e; exact mkd zs6 rfl F11 (F11.binds fun _ _ _ _ _ _ => zik fun _ _ _ => rfl) rfl rfl (zvp T)
  | 12, e => cases e; exact mkd zo4 rfl F12 (F12.binds fun _ _ _ _ _ _ => zjt fun _ => rfl) rfl rfl (zqh T)
  | 13, e => cases e; exact mkd zmi rfl F13 (F13.binds fun _ _ _ _ _ _ => zjt fun _ => rfl) rfl rfl (zns T)
  | 14, e => cases e
  | 15, e => cases e; exact mkd zo6 rfl F15 (F15.binds fun _ _ _ _ _ _ => zjt fun _ => rfl) rfl rfl (zqj T)
  | 16, e => cases e; exact mkd zlg rfl F16 (F16.binds fun _ _ _ _ _ _ => zd2 fun _ _ => rfl) rfl rfl (zly T)
  | 17, e => cases e; exact mkd zmh rfl F17 (F17.binds fun _ _ _ _ _ _ => zd2 fun _ _ => rfl) rfl rfl (znr T)
  | 18, e => cases e; exact mkd zru rfl F18 (F18.binds fun _ _ _ _ _ _ => zd2 fun _ _ => rfl) rfl rfl (ztc T)
  | 19, e => cases e
  | 20, e => cases e; exact mkd zux rfl F20 (F20.binds fun _ _ _ _ _ _ => zd2 fun _ _ => rfl) rfl rfl (zxj T)
  | 21, e => cases e; exact mkd zu1 rfl F21 (F21.binds fun _ _ _ _ _ _ => zd2 fun _ _ => rfl) rfl rfl (zxm T)
  | 22, e => cases e; exact mkd zw5 rfl F22 (F22.binds fun _ _ _ _ _ _ => zd2 fun _ _ => rfl) rfl rfl (zz8 T)
  | 23, e => cases e; exact mkd zuy rfl F23 (F23.binds fun _ _ _ _ _ _ => zd2 fun _ _ => rfl) rfl rfl (zxk T)
  | 24, e => cases e; exact mkd zzp rfl F24 (F24.binds fun _ _ _ _ _ _ => zd2 fun _ _ => rfl) rfl rfl (p_done T)
  | 25, e => cases e; exact mkd zmj rfl F25 (F25.binds fun _ _ _ _ _ _ => zik fun _ _ _ => rfl) rfl rfl (znt T)
  | 26, e => cases e
  | 27, e => cases e; exact mkd zp1 rfl F27 (F27.binds fun _ _ _ _ _ _ => zd2 fun _ _ => rfl) rfl rfl (zrz T)
  | 28, e => cases e; exact mkd znk rfl F28 (F28.binds fun _ _ _ _ _ _ => zd2 fun _ _ => rfl) rfl rfl (zpa T)
  | 29, e => cases e; exact mkd zp4 rfl F29 (F29.binds fun _ _ _ _ _ _ => zjt fun _ => rfl) rfl rfl (zr2 T)
  | 30, e => cases e; exact mkd zp7 rfl F30 (F30.binds fun _ _ _ _ _ _ => zjt fun _ => rfl) rfl rfl (zr5 T)
  | 31, e => cases e; exact mkd zp3 rfl F31 (F31.binds fun _ _ _ _ _ _ => zd2 fun _ _ => rfl) rfl rfl (zr1 T)
  | 32, e => cases e; exact mkd zrx rfl F32 (F32.binds fun _ _ _ _ _ _ => zd2 fun _ _ => rfl) rfl rfl (ztf T)
  | 33, e => cases e; exact mkd zp6 rfl F33 (F33.binds fun _ _ _ _ _ _ => zik fun _ _ _ => rfl) rfl rfl (zr4 T)
  | 34, e => cases e; exact mkd zmk rfl F34 (F34.binds fun _ _ _ _ _ _ => usb4 fun _ _ _ _ => rfl) rfl rfl (znu T)
  | 35, e => cases e; exact mkd zry rfl F35 (F35.binds fun _ _ _ _ _ _ => zik fun _ _ _ => rfl) rfl rfl (ztg T)
  | 36, e => cases e
  | 37, e => cases e
  | 38, e => cases e
  | 39, e => cases e
  | 40, e => cases e
  | 41, e => cases e; exact mkd zo7 rfl F41 (F41.binds fun _ _ _ _ _ _ => zd2 fun _ _ => rfl) rfl rfl (zqk T)
  | 42, e => cases e; exact mkd znn rfl F42 (F42.binds fun _ _ _ _ _ _ => zjt fun _ => rfl) rfl rfl (zpd T)
  | 43, e => cases e
  | 44, e => cases e; exact mkd zp5 rfl F44 (F44.binds fun _ _ _ _ _ _ => zd2 fun _ _ => rfl) rfl rfl (zr3 T)
  | 45, e => cases e
  | 46, e => cases e; exact mkd zs8 rfl F46 (F46.binds fun _ _ _ _ _ _ => zd2 fun _ _ => rfl) rfl rfl (zvr T)
  | 47, e => cases e
  | 48, e => cases e; exact mkd zuz rfl F48 (F48.binds fun _ _ _ _ _ _ => zik fun _ _ _ => rfl) rfl rfl (zxl T)
  | 49, e => cases e; exact mkd zkh rfl F49 (F49.binds fun _ _ _ _ _ _ => zd2 fun _ _ => rfl) rfl rfl (zks T)
  | 50, e => cases e
  | 51, e => cases e
  | 52, e => cases e; exact mkd zu2 rfl F52 (F52.binds fun _ _ _ _ _ _ => zd2 fun _ _ => rfl) rfl rfl (zxn T)
  | 53, e => cases e; exact mkd zs3 rfl F53 (F53.binds fun _ _ _ _ _ _ => zd2 fun _ _ => rfl) rfl rfl (zvm T)
  | 54, e => cases e; exact mkd zo3 rfl F54 (F54.binds fun _ _ _ _ _ _ => zd2 fun _ _ => rfl) rfl rfl (zqg T)
  | 55, e => cases e; exact mkd znj rfl F55 (F55.binds fun _ _ _ _ _ _ => zik fun _ _ _ => rfl) rfl rfl (zo9 T)
  | 56, e => cases e; exact mkd zs0 rfl F56 (F56.binds fun _ _ _ _ _ _ => usb4 fun _ _ _ _ => rfl) rfl rfl (zvj T)
  | 57, e => cases e; exact mkd znm rfl F57 (F57.binds fun _ _ _ _ _ _ => zjt fun _ => rfl) rfl rfl (zpc T)
  | 58, e => cases e
  | 59, e => cases e
  | 60, e => cases e
  | 61, e => cases e; exact mkd znl rfl F61 (F61.binds fun _ _ _ _ _ _ => usb4 fun _ _ _ _ => rfl) rfl rfl (zpb T)
  | 62, e => cases e; exact mkd zp2 rfl F62 (F62.binds fun _ _ _ _ _ _ => usb4 fun _ _ _ _ => rfl) rfl rfl (zr0 T)
  | 63, e => cases e; exact mkd zu0 rfl F63 (F63.binds fun _ _ _ _ _ _ => zjt fun _ => rfl) rfl rfl (p_law T)
  | k + 64, e => cases e
end
end K15
open PySem PySem.W PyProof.Rows
set_option maxRecDepth 100000 in
set_option maxHeartbeats 0 in
theorem PySem.Challenge.cw_leastdeeds_k15_whole_steps_there_and_bac_holds : PySem.Challenge.rw_leastdeeds_k15_whole_steps_there_and_bac.Holds := by
  w_on; o_law
  refine PySem.W.holds_open (r := K15.krow) (q := K15.kq) (loose := K15.zmw) (Xt := fun s => PySem.W.xlAt K15.kq [] s && PySem.W.recOk (PySem.W.RowW.records K15.krow.toRowW) s) (XP := PySem.W.XL K15.kq []) (Yf := K15.kH.obs) (Ya := K15.kH.val) (YP := K15.kH.says) (N := 6298) K15.kleft K15.kH.of K15.kH.keeps (fun s e => PySem.W.xl_of s (Bool.and_eq_true_iff.mp e).1) PySem.W.XL.keeps (by rfl) (by rfl) (by rfl) (fun s e => PySem.W.recFacts_of (Bool.and_eq_true_iff.mp e).2) (by rfl) (by first | assumption | decide +kernel) (by decide +kernel) ⟨rfl, rfl, rfl, rfl, rfl, by decide +kernel⟩ ?hw ?hc
  case hw => w_witness2
  refine L2.zws (l := PySem.Challenge.rw_leastdeeds_k15_whole_steps_there_and_bac) (n := 63) (k := 40) (x := "script") (CX := L2.CX0) (sp := LD.spLaw) rfl (by decide) rfl ⟨rfl, by decide, by decide⟩ (fun w h Y => PySem.W.kIn_of Y) ?F (fun K H a ns hl hO hS => ⟨a, ns, rfl, hS, hO, hl, fun _ => rfl⟩) (fun _ _ _ _ z => z)
  case F =>
    intro w mg fa h KX G hmg
    obtain ⟨f0, fd0, m0, F0⟩ := K15.mkf "is_between" K15.zdy 115 114 "leastdeeds.wholes" 314 KX G (by kernel_rfl) (by kernel_rfl) (by kernel_rfl) (by kernel_rfl)
    obtain ⟨f1, fd1, m1, F1⟩ := K15.mkf "is_word" K15.zfb 122 121 "leastdeeds.machines" 325 KX G (by kernel_rfl) (by kernel_rfl) (by kernel_rfl) (by kernel_rfl)
    obtain ⟨f2, fd2, m2, F2⟩ := K15.mkf "is_place" K15.zev 129 128 "leastdeeds.machines" 325 KX G (by kernel_rfl) (by kernel_rfl) (by kernel_rfl) (by kernel_rfl)
    obtain ⟨f3, fd3, m3, F3⟩ := K15.mkf "is_cost" K15.zfh 136 135 "leastdeeds.machines" 325 KX G (by kernel_rfl) (by kernel_rfl) (by kernel_rfl) (by kernel_rfl)
    obtain ⟨f4, fd4, m4, F4⟩ := K15.mkf "is_tuple_of" K15.zdj 143 142 "leastdeeds.machines" 325 KX G (by kernel_rfl) (by kernel_rfl) (by kernel_rfl) (by kernel_rfl)
    obtain ⟨f5, fd5, m5, F5⟩ := K15.mkf "is_table" K15.zd6 148 147 "leastdeeds.machines" 325 KX G (by kernel_rfl) (by kernel_rfl) (by kernel_rfl) (by kernel_rfl)
    obtain ⟨f6, fd6, m6, F6⟩ := K15.mkf "is_double_table" K15.zb9 153 152 "leastdeeds.machines" 325 KX G (by kernel_rfl) (by kernel_rfl) (by kernel_rfl) (by kernel_rfl)
    obtain ⟨f7, fd7, m7, F7⟩ := K15.mkf "is_turn" K15.zfc 160 159 "leastdeeds.machines" 325 KX G (by kernel_rfl) (by kernel_rfl) (by kernel_rfl) (by kernel_rfl)
    obtain ⟨f8, fd8, m8, F8⟩ := K15.mkf "is_join" K15.zff 167 166 "leastdeeds.machines" 325 KX G (by kernel_rfl) (by kernel_rfl) (by kernel_rfl) (by kernel_rfl)
    obtain ⟨f9, fd9, m9, F9⟩ := K15.mkf "is_move" K15.zfe 174 173 "leastdeeds.machines" 325 KX G (by kernel_rfl) (by kernel_rfl) (by kernel_rfl) (by kernel_rfl)
    obtain ⟨f10, fd10, m10, F10⟩ := K15.mkf "is_put" K15.zfy 181 180 "leastdeeds.machines" 325 KX G (by kernel_rfl) (by kernel_rfl) (by kernel_rfl) (by kernel_rfl)
    obtain ⟨f11, fd11, m11, F11⟩ := K15.mkf "is_deed" K15.zfg 189 188 "leastdeeds.machines" 325 KX G (by kernel_rfl) (by kernel_rfl) (by kernel_rfl) (by kernel_rfl)
    obtain ⟨f12, fd12, m12, F12⟩ := K15.mkf "is_machine" K15.zde 194 193 "leastdeeds.machines" 325 KX G (by kernel_rfl) (by kernel_rfl) (by kernel_rfl) (by kernel_rfl)
    obtain ⟨f13, fd13, m13, F13⟩ := K15.mkf "need_machine" K15.zc7 201 200 "leastdeeds.machines" 325 KX G (by kernel_rfl) (by kernel_rfl) (by kernel_rfl) (by kernel_rfl)
    obtain ⟨f15, fd15, m15, F15⟩ := K15.mkf "beginnings" K15.zdf 206 205 "leastdeeds.machines" 325 KX G (by kernel_rfl) (by kernel_rfl) (by kernel_rfl) (by kernel_rfl)
    obtain ⟨f16, fd16, m16, F16⟩ := K15.mkf "is_deed_number" K15.zcl 213 212 "leastdeeds.machines" 325 KX G (by kernel_rfl) (by kernel_rfl) (by kernel_rfl) (by kernel_rfl)
    obtain ⟨f17, fd17, m17, F17⟩ := K15.mkf "need_numbers" K15.zc6 220 219 "leastdeeds.machines" 325 KX G (by kernel_rfl) (by kernel_rfl) (by kernel_rfl) (by kernel_rfl)
    obtain ⟨f18, fd18, m18, F18⟩ := K15.mkf "need_row" K15.zeu 227 226 "leastdeeds.machines" 325 KX G (by kernel_rfl) (by kernel_rfl) (by kernel_rfl) (by kernel_rfl)
    obtain ⟨f20, fd20, m20, F20⟩ := K15.mkf "turned" K15.zft 234 233 "leastdeeds.runs" 496 KX G (by kernel_rfl) (by kernel_rfl) (by kernel_rfl) (by kernel_rfl)
    obtain ⟨f21, fd21, m21, F21⟩ := K15.mkf "joined" K15.zfw 241 240 "leastdeeds.runs" 496 KX G (by kernel_rfl) (by kernel_rfl) (by kernel_rfl) (by kernel_rfl)
    obtain ⟨f22, fd22, m22, F22⟩ := K15.mkf "moved" K15.zgq 248 247 "leastdeeds.runs" 496 KX G (by kernel_rfl) (by kernel_rfl) (by kernel_rfl) (by kernel_rfl)
    obtain ⟨f23, fd23, m23, F23⟩ := K15.mkf "put_in" K15.zfu 255 254 "leastdeeds.runs" 496 KX G (by kernel_rfl) (by kernel_rfl) (by kernel_rfl) (by kernel_rfl)
    obtain ⟨f24, fd24, m24, F24⟩ := K15.mkf "done" K15.zhg 263 262 "leastdeeds.runs" 496 KX G (by kernel_rfl) (by kernel_rfl) (by kernel_rfl) (by kernel_rfl)
    obtain ⟨f25, fd25, m25, F25⟩ := K15.mkf "all_standing" K15.zc8 270 269 "leastdeeds.runs" 496 KX G (by kernel_rfl) (by kernel_rfl) (by kernel_rfl) (by kernel_rfl)
    obtain ⟨f46, fd46, m46, F46⟩ := K15.mkf "ends_of" K15.zes 275 274 "leastdeeds.runs" 496 KX G (by kernel_rfl) (by kernel_rfl) (by kernel_rfl) (by kernel_rfl)
    obtain ⟨f27, fd27, m27, F27⟩ := K15.mkf "behaviour" K15.zed 282 281 "leastdeeds.runs" 496 KX G (by kernel_rfl) (by kernel_rfl) (by kernel_rfl) (by kernel_rfl)
    obtain ⟨f48, fd48, m48, F48⟩ := K15.mkf "parted" K15.zfv 289 288 "leastdeeds.alike" 591 KX G (by kernel_rfl) (by kernel_rfl) (by kernel_rfl) (by kernel_rfl)
    obtain ⟨f52, fd52, m52, F52⟩ := K15.mkf "is_row" K15.zfx 296 295 "leastdeeds.alike" 591 KX G (by kernel_rfl) (by kernel_rfl) (by kernel_rfl) (by kernel_rfl)
    obtain ⟨f53, fd53, m53, F53⟩ := K15.mkf "is_rule" K15.zfd 303 302 "leastdeeds.alike" 591 KX G (by kernel_rfl) (by kernel_rfl) (by kernel_rfl) (by kernel_rfl)
    obtain ⟨f54, fd54, m54, F54⟩ := K15.mkf "need_rules" K15.zdx 310 309 "leastdeeds.alike" 591 KX G (by kernel_rfl) (by kernel_rfl) (by kernel_rfl) (by kernel_rfl)
    obtain ⟨f55, fd55, m55, F55⟩ := K15.mkf "behind_step" K15.zdk 317 316 "leastdeeds.alike" 591 KX G (by kernel_rfl) (by kernel_rfl) (by kernel_rfl) (by kernel_rfl)
    obtain ⟨f56, fd56, m56, F56⟩ := K15.mkf "stepped" K15.zfa 324 323 "leastdeeds.alike" 591 KX G (by kernel_rfl) (by kernel_rfl) (by kernel_rfl) (by kernel_rfl)
    obtain ⟨f28, fd28, m28, F28⟩ := K15.mkf "_law_spread" K15.zdl 331 330 "law_leastdeeds_k15_whole_steps_there_and_bac" 665 KX G (by kernel_rfl) (by kernel_rfl) (by kernel_rfl) (by kernel_rfl)
    obtain ⟨f29, fd29, m29, F29⟩ := K15.mkf "_law_open" K15.zeg 338 337 "law_leastdeeds_k15_whole_steps_there_and_bac" 665 KX G (by kernel_rfl) (by kernel_rfl) (by kernel_rfl) (by kernel_rfl)
    obtain ⟨f30, fd30, m30, F30⟩ := K15.mkf "_law_anew" K15.zei 345 344 "law_leastdeeds_k15_whole_steps_there_and_bac" 665 KX G (by kernel_rfl) (by kernel_rfl) (by kernel_rfl) (by kernel_rfl)
    obtain ⟨f31, fd31, m31, F31⟩ := K15.mkf "_law_take" K15.zef 352 351 "law_leastdeeds_k15_whole_steps_there_and_bac" 665 KX G (by kernel_rfl) (by kernel_rfl) (by kernel_rfl) (by kernel_rfl)
    obtain ⟨f32, fd32, m32, F32⟩ := K15.mkf "_law_tab" K15.zc4 357 356 "law_leastdeeds_k15_whole_steps_there_and_bac" 665 KX G (by kernel_rfl) (by kernel_rfl) (by kernel_rfl) (by kernel_rfl)
    obtain ⟨f33, fd33, m33, F33⟩ := K15.mkf "_law_deed" K15.zds 362 361 "law_leastdeeds_k15_whole_steps_there_and_bac" 665 KX G (by kernel_rfl) (by kernel_rfl) (by kernel_rfl) (by kernel_rfl)
    obtain ⟨f34, fd34, m34, F34⟩ := K15.mkf "_law_machine" K15.zc9 369 368 "law_leastdeeds_k15_whole_steps_there_and_bac" 665 KX G (by kernel_rfl) (by kernel_rfl) (by kernel_rfl) (by kernel_rfl)
    obtain ⟨f35, fd35, m35, F35⟩ := K15.mkf "_law_row" K15.zd7 374 373 "law_leastdeeds_k15_whole_steps_there_and_bac" 665 KX G (by kernel_rfl) (by kernel_rfl) (by kernel_rfl) (by kernel_rfl)
    obtain ⟨f41, fd41, m41, F41⟩ := K15.mkf "_law_after" K15.zdz 381 380 "law_leastdeeds_k15_whole_steps_there_and_bac" 665 KX G (by kernel_rfl) (by kernel_rfl) (by kernel_rfl) (by kernel_rfl)
    obtain ⟨f42, fd42, m42, F42⟩ := K15.mkf "_law_begins" K15.zci 386 385 "law_leastdeeds_k15_whole_steps_there_and_bac" 665 KX G (by kernel_rfl) (by kernel_rfl) (by kernel_rfl) (by kernel_rfl)
    obtain ⟨f44, fd44, m44, F44⟩ := K15.mkf "_law_ends" K15.zeh 393 392 "law_leastdeeds_k15_whole_steps_there_and_bac" 665 KX G (by kernel_rfl) (by kernel_rfl) (by kernel_rfl) (by kernel_rfl)
    obtain ⟨f49, fd49, m49, F49⟩ := K15.mkf "_law_alike_pairs" K15.zb5 398 397 "law_leastdeeds_k15_whole_steps_there_and_bac" 665 KX G (by kernel_rfl) (by kernel_rfl) (by kernel_rfl) (by kernel_rfl)
    obtain ⟨f57, fd57, m57, F57⟩ := K15.mkf "_law_copied" K15.zcs 403 402 "law_leastdeeds_k15_whole_steps_there_and_bac" 665 KX G (by kernel_rfl) (by kernel_rfl) (by kernel_rfl) (by kernel_rfl)
    obtain ⟨f61, fd61, m61, F61⟩ := K15.mkf "_law_places" K15.zcr 408 407 "law_leastdeeds_k15_whole_steps_there_and_bac" 665 KX G (by kernel_rfl) (by kernel_rfl) (by kernel_rfl) (by kernel_rfl)
    obtain ⟨f62, fd62, m62, F62⟩ := K15.mkf "_law_walk" K15.zee 415 414 "law_leastdeeds_k15_whole_steps_there_and_bac" 665 KX G (by kernel_rfl) (by kernel_rfl) (by kernel_rfl) (by kernel_rfl)
    obtain ⟨f63, fd63, m63, F63⟩ := K15.mkf "law" K15.zgw 420 419 "law_leastdeeds_k15_whole_steps_there_and_bac" 665 KX G (by kernel_rfl) (by kernel_rfl) (by kernel_rfl) (by kernel_rfl)
    have z_all : mg "all" = none := LD.zf0 KX G (by kernel_rfl)
    have z_bool : mg "bool" = none := LD.zf0 KX G (by kernel_rfl)
    have z_enumerate : mg "enumerate" = none := LD.zf0 KX G (by kernel_rfl)
    have z_int : mg "int" = none := LD.zf0 KX G (by kernel_rfl)
    have z_isinstance : mg "isinstance" = none := LD.zf0 KX G (by kernel_rfl)
    have z_len : mg "len" = none := LD.zf0 KX G (by kernel_rfl)
    have z_list : mg "list" = none := LD.zf0 KX G (by kernel_rfl)
    have z_range : mg "range" = none := LD.zf0 KX G (by kernel_rfl)
    have z_str : mg "str" = none := LD.zf0 KX G (by kernel_rfl)
    have z_tuple : mg "tuple" = none := LD.zf0 KX G (by kernel_rfl)
    have z_zip : mg "zip" = none := LD.zf0 KX G (by kernel_rfl)
    have c_LEAST_WORDS : ∃ t, mg "LEAST_WORDS" = some (.int 2 t) := LD.zjn (t := 327) KX G (by kernel_rfl)
    have c_LONGEST_ROW : ∃ t, mg "LONGEST_ROW" = some (.int 40 t) := LD.zjn (t := 337) KX G (by kernel_rfl)
    have c_MOST_COST : ∃ t, mg "MOST_COST" = some (.int 3 t) := LD.zjn (t := 335) KX G (by kernel_rfl)
    have c_MOST_DEEDS : ∃ t, mg "MOST_DEEDS" = some (.int 6 t) := LD.zjn (t := 333) KX G (by kernel_rfl)
    have c_MOST_PLACES : ∃ t, mg "MOST_PLACES" = some (.int 2 t) := LD.zjn (t := 331) KX G (by kernel_rfl)
    have c_MOST_WORDS : ∃ t, mg "MOST_WORDS" = some (.int 4 t) := LD.zjn (t := 329) KX G (by kernel_rfl)
    have b20 := LD.zhx (x := "turned") (f := 234) KX G (by kernel_rfl)
    have b21 := LD.zhx (x := "joined") (f := 241) KX G (by kernel_rfl)
    have b22 := LD.zhx (x := "moved") (f := 248) KX G (by kernel_rfl)
    have b23 := LD.zhx (x := "put_in") (f := 255) KX G (by kernel_rfl)
    have d_NEW_WORDS := LD.zsk (x := "NEW_WORDS") (P := w.params) (fa := K15.faOf [(0, f0), (1, f1), (2, f2), (3, f3), (4, f4), (5, f5), (6, f6), (7, f7), (8, f8), (9, f9), (10, f10), (11, f11), (12, f12), (13, f13), (15, f15), (16, f16), (17, f17), (18, f18), (20, f20), (21, f21), (22, f22), (23, f23), (24, f24), (25, f25), (46, f46), (27, f27), (48, f48), (52, f52), (53, f53), (54, f54), (55, f55), (56, f56), (28, f28), (29, f29), (30, f30), (31, f31), (32, f32), (33, f33), (34, f34), (35, f35), (41, f41), (42, f42), (44, f44), (49, f49), (57, f57), (61, f61), (62, f62), (63, f63)]) (fs := LD.zdt) (ad := 256) (es := #[{ hash := PySem.PyData.keyHash w.params (PySem.Str.ofString "turn"), key := PySem.Value.str (PySem.Str.ofString "turn") 547, val := PySem.Value.ref 234 }, { hash := PySem.PyData.keyHash w.params (PySem.Str.ofString "join"), key := PySem.Value.str (PySem.Str.ofString "join") 548, val := PySem.Value.ref 241 }, { hash := PySem.PyData.keyHash w.params (PySem.Str.ofString "move"), key := PySem.Value.str (PySem.Str.ofString "move") 549, val := PySem.Value.ref 248 }, { hash := PySem.PyData.keyHash w.params (PySem.Str.ofString "put"), key := PySem.Value.str (PySem.Str.ofString "put") 550, val := PySem.Value.ref 255 }]) (n := 4) KX G (by kernel_rfl) (by kernel_rfl) (by exact LD.zgt (LD.zgt (LD.zgt (LD.zgt (LD.zv0))))) (by decide +kernel) (by decide) (by exact LD.zf2 rfl m20 b20 (LD.zf2 rfl m21 b21 (LD.zf2 rfl m22 b22 (LD.zf2 rfl m23 b23 (.nil)))))
    have b7 := LD.zhx (x := "is_turn") (f := 160) KX G (by kernel_rfl)
    have b8 := LD.zhx (x := "is_join") (f := 167) KX G (by kernel_rfl)
    have b9 := LD.zhx (x := "is_move") (f := 174) KX G (by kernel_rfl)
    have b10 := LD.zhx (x := "is_put") (f := 181) KX G (by kernel_rfl)
    have d_SORTS := LD.zsk (x := "SORTS") (P := w.params) (fa := K15.faOf [(0, f0), (1, f1), (2, f2), (3, f3), (4, f4), (5, f5), (6, f6), (7, f7), (8, f8), (9, f9), (10, f10), (11, f11), (12, f12), (13, f13), (15, f15), (16, f16), (17, f17), (18, f18), (20, f20), (21, f21), (22, f22), (23, f23), (24, f24), (25, f25), (46, f46), (27, f27), (48, f48), (52, f52), (53, f53), (54, f54), (55, f55), (56, f56), (28, f28), (29, f29), (30, f30), (31, f31), (32, f32), (33, f33), (34, f34), (35, f35), (41, f41), (42, f42), (44, f44), (49, f49), (57, f57), (61, f61), (62, f62), (63, f63)]) (fs := LD.zd0) (ad := 182) (es := #[{ hash := PySem.PyData.keyHash w.params (PySem.Str.ofString "turn"), key := PySem.Value.str (PySem.Str.ofString "turn") 431, val := PySem.Value.ref 160 }, { hash := PySem.PyData.keyHash w.params (PySem.Str.ofString "join"), key := PySem.Value.str (PySem.Str.ofString "join") 432, val := PySem.Value.ref 167 }, { hash := PySem.PyData.keyHash w.params (PySem.Str.ofString "move"), key := PySem.Value.str (PySem.Str.ofString "move") 433, val := PySem.Value.ref 174 }, { hash := PySem.PyData.keyHash w.params (PySem.Str.ofString "put"), key := PySem.Value.str (PySem.Str.ofString "put") 434, val := PySem.Value.ref 181 }]) (n := 4) KX G (by kernel_rfl) (by kernel_rfl) (by exact LD.zgt (LD.zgt (LD.zgt (LD.zgt (LD.zv0))))) (by decide +kernel) (by decide) (by exact LD.zf2 rfl m7 b7 (LD.zf2 rfl m8 b8 (LD.zf2 rfl m9 b9 (LD.zf2 rfl m10 b10 (.nil)))))
    have T := K15.Txt.mk (w := w) (fa := K15.faOf [(0, f0), (1, f1), (2, f2), (3, f3), (4, f4), (5, f5), (6, f6), (7, f7), (8, f8), (9, f9), (10, f10), (11, f11), (12, f12), (13, f13), (15, f15), (16, f16), (17, f17), (18, f18), (20, f20), (21, f21), (22, f22), (23, f23), (24, f24), (25, f25), (46, f46), (27, f27), (48, f48), (52, f52), (53, f53), (54, f54), (55, f55), (56, f56), (28, f28), (29, f29), (30, f30), (31, f31), (32, f32), (33, f33), (34, f34), (35, f35), (41, f41), (42, f42), (44, f44), (49, f49), (57, f57), (61, f61), (62, f62), (63, f63)]) (z_all) (z_bool) (z_enumerate) (z_int) (z_isinstance) (z_len) (z_list) (z_range) (z_str) (z_tuple) (z_zip) (c_LEAST_WORDS) (c_LONGEST_ROW) (c_MOST_COST) (c_MOST_DEEDS) (c_MOST_PLACES) (c_MOST_WORDS) (d_NEW_WORDS) (d_SORTS) (fun ad h => by cases h; exact m0) (fun ad h => by cases h; exact m1) (fun ad h => by cases h; exact m2) (fun ad h => by cases h; exact m3) (fun ad h => by cases h; exact m4) (fun ad h => by cases h; exact m5) (fun ad h => by cases h; exact m6) (fun ad h => by cases h; exact m11) (fun ad h => by cases h; exact m12) (fun ad h => by cases h; exact m13) (fun ad h => by cases h; exact m15) (fun ad h => by cases h; exact m16) (fun ad h => by cases h; exact m17) (fun ad h => by cases h; exact m18) (fun ad h => by cases h; exact m24) (fun ad h => by cases h; exact m25) (fun ad h => by cases h; exact m27) (fun ad h => by cases h; exact m28) (fun ad h => by cases h; exact m29) (fun ad h => by cases h; exact m30) (fun ad h => by cases h; exact m31) (fun ad h => by cases h; exact m32) (fun ad h => by cases h; exact m33) (fun ad h => by cases h; exact m34) (fun ad h => by cases h; exact m35) (fun ad h => by cases h; exact m41) (fun ad h => by cases h; exact m42) (fun ad h => by cases h; exact m44) (fun ad h => by cases h; exact m46) (fun ad h => by cases h; exact m48) (fun ad h => by cases h; exact m49) (fun ad h => by cases h; exact m52) (fun ad h => by cases h; exact m53) (fun ad h => by cases h; exact m54) (fun ad h => by cases h; exact m55) (fun ad h => by cases h; exact m56) (fun ad h => by cases h; exact m57) (fun ad h => by cases h; exact m61) (fun ad h => by cases h; exact m62)
    have e := hmg.symm.trans m63
    cases e
    exact ⟨fd63, fun s v => by
      obtain ⟨oc, od, kV, doc, pm, an, cdv, ct, osl, rfl, lk, hcd⟩ := F63.ex
      exact .of_eq rfl, fun base _ _ => LD.law_fn (n := 39) (f := 63) (K15.z0p F0 F1 F2 F3 F4 F5 F6 F7 F8 F9 F10 F11 F12 F13 F15 F16 F17 F18 F20 F21 F22 F23 F24 F25 F46 F27 F48 F52 F53 F54 F55 F56 F28 F29 F30 F31 F32 F33 F34 F35 F41 F42 F44 F49 F57 F61 F62 F63 T) K15.zx2 rfl F63 K15.zu0 rfl fun c n cdv A outer s H E C hr => K15.p_law T c n cdv A outer s H E C hr⟩
